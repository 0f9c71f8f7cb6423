import Derived.Test.YtfmeclmjdpbacaaGreatDoorX10
set_option maxRecDepth 100000
set_option maxHeartbeats 16000000
open Option renaming some->ai,none->an
open Bool renaming false->ba
open Go.RowKit renaming Below->bg
open Go.Obj renaming cells->bs
open Go.Value renaming slice->bx,agg->ca,pointer->ea
open Go.Ground renaming data->dp
open List renaming length->ed
open Go.World renaming cell?->eh,ownsRow->ej,grownBy->ek,setCell->el
namespace Go.Proofs.YtfmeclmjdpbacaaGreatDoor
open ChangeShapes WideShapes ChangeAt RowKit _root_.Go.Proofs.Tryz List World Value
variable{a:Zk}{b n c g k B:Nat}{w e:Zh}{p:Int}
theorem UY{b:Zk}(c d:Nat){f h:Zl}(p:Ad w w.1.size a f)(o:Ad w w.1.size b h)(R:a=an->ed f=0/\c=0)(S:b=an->ed h=0/\d=0)(hl:ed f<=1048576)(Z:ed h<=1048576):
 D4 39 #[ca #[Cx a (ed f) c,Cx b (ed h) d]] w λe j=>∃g i,e=C1 (Yz g (ed (f++h)) i)/\ej j w.1.size 9 1 (Yz g (ed (f++h)) i) (ed (f++h)) ((f++h).map string)/\Zz w j:=by
 obtain⟨⟨H,G,v,x,y⟩,W,i⟩:=info_parts CQ,Du w #[Cw a f c,Cw b h d] 25;obtain⟨n,Y,j⟩:=(Av i).1,(Av i).2.1,(Av i).2.2;have z:bg W.1.size W (W.alloc (bs #[] 9)):=gB;have J:ej (W.alloc (bs #[] 9)).drew (w.1.size+1) 9 1 (Yz (w.1.size+1) 0 0) 0 (([]:Zl).map string):=by have F:=ownsRow_lit (base:=w.1.size+1) (e:=9) (size:=1) W #[] 0 Yv Yo rfl;rw[Y]at F;exact F
 have K:=(Ad.A p (n.ag (z.drew.ah n.size))).dg;have l:=Aa.A j z;obtain⟨T,U⟩:=Aa.c2 j 0 1;obtain⟨⟨V,X⟩,m,E⟩:=Aa.c2 l 0 1,Yw i,Yw (Zn l (n.ag (z.ah n.size)));have O:Hid (Ad w w.1.size b h):=o;clear i j l p o;delta D4;go_in;go_upto_region 1 with fail;rw[<-m.o];clear m
 go_region_law (first
  |(refine Be (W.alloc (bs #[] 9)).drew rfl (.tmp 3) (.tmp 5) 23 rfl (w.1.size+1) 9 H Zc 16 underlying23 G v x y rfl (w.1.size+1) 0 0 [] rfl J a (ed f) c f rfl rfl R K Yo Yv Ym ?_;intro B o C l j p r;simp only[Ax,nil_append]at l;have D:Aa C w.1.size [Cw a f c,Cw b h d]:=(Aa.same E.1 (j.block _ Ym Ym));have m:bg w.1.size w C:=(E.2.drew.grown j Ym (λk A=>by cases A;omega));have P:=(D 0 _ rfl).1;have Q:=(D 1 _ rfl).1;have r6:=(Ad.A O m).dg;have M:=j.size;simp at M)
  |(refine Be C rfl (.tmp 6) (.tmp 8) 23 rfl (w.1.size+1) 9 H Zc 16 underlying23 G v x y rfl B (ed f) o f rfl l b (ed h) d h rfl rfl S r6 Yo Yv Yv ?_;intro I i L u t q s))
 all_goals
  have e:w.1.size+1<=B:=(l.lt B rfl).1;have N:Hid (ej L w.1.size 9 1 (Yz I (ed f+ed h) i) (ed f+ed h) ((f++h).map string)/\Zz w L):=⟨u.ah Yv,m.grown t m.size (λk A=>by cases A;omega)⟩;clear l j p r D m P Q r6 M u t q s J K T U V X;go_wp2;go_ret;rw[Am];exact⟨I,i,rfl,N⟩
def SZ(b n0:Nat):Nat->Zh->Value->Prop
 |0,_,v|2,_,v|5,_,v|9,_,v|12,_,v=>v=ea (ai ⟨b,0,an⟩)
 |1,_,v=>∃s,v=.string s/\s.size<=16
 |3,_,v=>∃r:Int,v=Zg r/\0<=r/\r<8
 |4,w,v=>∃g,v=bx (ai ⟨g,0,an⟩) 3 3/\n0<=g/\Aa w g [.string ⟨#[112]⟩,.string ⟨#[113]⟩,.string ⟨#[114]⟩]
 |6,_,v=>∃r:Nat,v=Zg r/\r<3
 |7,w,v=>∃g k s,v=ea (ai ⟨g,k,an⟩)/\n0<=g/\eh w (Zd g k)=ai (.string s)/\s.size<=1
 |8,_,v=>∃s,v=.string s/\s.size<=1
 |10,_,v=>∃r:Int,v=Zg r/\0<=r/\r<40
 |11,w,v=>∃g,v=bx (ai ⟨g,0,an⟩) 5 5/\n0<=g/\Aa w g [Zg 1,Zg 3,Zg 10,Zg 40,Zg 200]
 |13,_,v=>∃r:Nat,v=Zg r/\r<5
 |14,w,v=>∃g k t,v=ea (ai ⟨g,k,an⟩)/\n0<=g/\eh w (Zd g k)=ai (Zg t)
 |15,_,v=>∃t,v=Zg t
 |16,_,v=>∃s r nm pk tk,v=ca #[Ze,.string s,Zg r,.string nm,Zg pk,Zg tk]/\s.size<=16/\0<=r/\r<8/\nm.size<=1/\0<=pk/\pk<40
 |17,w,v=>∃g,v=ea (ai ⟨g,0,an⟩)/\n0<=g/\Aa w g [Ze,Zc,Ze,Zc,Ze,Ze]
 |_,_,_=>True
theorem WR{e:Nat}(n:b<e):∀i w j v,ek w j (ai b)->SZ b e i w v->SZ b e i j v:=by
 intro i w j v f h;have l:∀g,e<=g->ai g≠ai b:=gG;unfold SZ at h |-;split at h<;>first
  |exact h
  |(obtain⟨g,c,a,d⟩:=h;exact⟨g,c,a,d.az f Yv⟩)
  |(obtain⟨g,k,s,c,a,d,m⟩:=h;exact⟨g,k,s,c,a,f.cell d (l g a),m⟩)
  |(obtain⟨g,k,s,c,a,d⟩:=h;exact⟨g,k,s,c,a,f.cell d (l g a)⟩)
def Fx(w0:Zh)(b:Nat)(a:Zk)(n c:Nat)(p:Int)(n0 k:Nat)(w:Zh):Prop:=
 (∃p',AP w b a n c p'/\p<=p'/\p'<=p+10 *k)/\ek w0 w (ai b)/\n0<=w.1.size
theorem Fx.call{i:Zh}{d:Int}(h:Fx i b a n c p g k w)(l:AP e b a n c d)(f:ek w e (ai b))(j:p<=d)(m:d<=p+10 *(k+1)):Fx i b a n c p g (k+1) e:=
 ⟨⟨d,l,j,Yv⟩,AF h.2.1 f,Zm h.2.2 f.size⟩
theorem Fx.alloc{n0:Nat}(h:Fx e b a n c p n0 k w)(o:Obj):Fx e b a n c p n0 (k+1) (w.alloc o):=by have d:bg w.1.size w (w.alloc o):=gB;obtain⟨⟨j,i,f,l⟩,g,m⟩:=h;exact⟨⟨j,i.A d,f,Yv⟩,AF g (Al _ d),Yt⟩
theorem Fx.ak{d:Nat}(h:Fx e b a n c p d k w):Fx e b a n c p d (k+1) w:=by obtain⟨⟨i,g,f,j⟩,h⟩:=h;exact⟨⟨i,g,f,Yv⟩,h⟩
theorem Aa.fz{l:Zj}(h:Aa w B l):∀j,j<ed l->w.frozen? ⟨B,j,an⟩=ba:=λj a=>(h j _ (Zv a)).2
theorem Hg{q:Nat}{v a b c d e f:Dg}:Tn [g,q] w (el (el (el (el (el (el (el w (Zd g 0) v) (Zd q 0) a) (Zd q 1) b) (Zd q 2) c) (Zd q 3) d) (Zd q 4) e) (Zd q 5) f):=
 have s:∀X j u,Tn [g,q] X (el X (Zd q j) u):=λX j u=>Tn.set X q j u Yu
 ((((((Tn.set w g 0 v Yu).ag (s _ _ _)).ag (s _ _ _)).ag (s _ _ _)).ag (s _ _ _)).ag (s _ _ _)).ag (s _ _ _)
theorem AP.O(h:AP w b a n c p){V:List Nat}(d:Tn V w e)(r:∀g∈V,b<g)(k:b∉V):AP e b a n c p:=by
 have i:=h.lt;have f:∀q j,q<=b->eh e (Zd q j)=eh w (Zd q j):=λq j l=>cell?_of_block (d.block q Yv (λl=>C8 (r q l)));refine⟨(f b 0 (Zx)).ag h.c0,(f b 1 (Zx)).ag h.c1,?_,Zr i d.size,h.n2,?_⟩
 .exact(frozen?_of_block (d.block b i k)).ag h.f1
 rcases h.bytes with h|⟨q,m,o,l,t⟩
 .exact .inl h
 refine .inr ⟨q,m,o,l,λj s=> ?_⟩;have⟨x,u,v,y⟩:=t j s;exact gG
theorem Abb(h:AP w b a n c p)(hp:0<=p)(zS:p<=800000):
 D4 15 #[Yy b] w λe B=>∃kd T O q m z,e=C1 (ca #[Zg kd,C0 T,Zg O,C0 q,Zg m,Zg z])/\T.size<=16/\0<=O/\O<8/\q.size<=1/\0<=m/\m<40/\JG w B b a n c p 300:=by
 obtain⟨zO,W,hW⟩:=h.lt,Du w Ya 42;have⟨bW,zW,xW⟩:=Av hW;have zB:Hid (Fx W b a n c p W.1.size 0 W.drew):=⟨⟨p,(h.A bW).drew,Int.le_refl _,Yv⟩,⟨rfl,rfl,rfl,Zx,λ_ _ _=>rfl⟩,Zx⟩;have HW:=Yw hW;have HX:Hid (Aa W w.1.size Xz):=xW;have HB:Hid (Zz w W/\W.1.size=w.1.size+1):=gB;delta D4;go_in;go_upto_region 1 with fail;rw[<-HW.o];have E:Hid (Zz w W/\W.1.size=w.1.size+1/\b<W.1.size):=gD;refine Qc 18 Yr Yr Yr Yr (λx=>{tmps:= #[Yy b,undef,Yy w.1.size,x 17,undef,x 0,x 1,x 2,x 3,x 4,x 5,x 6,x 7,x 8,x 9,x 10,x 11,x 12,x 13,x 14,x 15,x 16,undef,undef,undef,undef,undef,undef,undef,undef,undef,undef,undef,undef,undef,undef,undef,undef,undef,undef,undef,undef,undef,undef,undef,undef,undef,undef,undef,undef],defers:=[]}) (λ_=>undef) (Fx W b a n c p W.1.size) (SZ b W.1.size) (λw B=>ek w B (ai b)) (WR E.2.2) ?_ zB ?_ ?_
 .intro i o x v Q R;rcases(show i=0\/i=1\/i=2\/i=3\/i=4\/i=5\/i=6\/i=7\/i=8\/i=9\/i=10\/i=11\/i=12\/i=13\/i=14\/i=15\/i=16\/i=17 by omega)with rfl|rfl|rfl|rfl|rfl|rfl|rfl|rfl|rfl|rfl|rfl|rfl|rfl|rfl|rfl|rfl|rfl|rfl<;>(cases R;rfl)
 .intro i o k x w Q R hk f u K d;rcases(show i=0\/i=1\/i=2\/i=3\/i=4\/i=5\/i=6\/i=7\/i=8\/i=9\/i=10\/i=11\/i=12\/i=13\/i=14\/i=15\/i=16\/i=17 by omega)with rfl|rfl|rfl|rfl|rfl|rfl|rfl|rfl|rfl|rfl|rfl|rfl|rfl|rfl|rfl|rfl|rfl|rfl<;>cases R<;>rw[if_pos Yp]
  .dsimp only at d |-;go_simp;exact d.out _ w rfl (Bv _ _) f.ak
  .dsimp only at d |-;have d0:=u {on:=0,ground:=dp} Yu Yp;have zC:x 0=Yy b:=d0;have⟨⟨D,y,J,L⟩,_⟩:=id f;rw[zC]at d |-;go_simp;refine(JH y Yv Yv).ah ?_;rintro e B ⟨s,rfl,hs,⟨p2,A,Y,h4⟩,j⟩;exact d.out _ B ⟨s,rfl,hs⟩ j (Fx.call f A j Yv Yv)
  .dsimp only at d |-;go_simp;exact d.out _ w rfl (Bv _ _) f.ak
  .dsimp only at d |-;have d2:=u {on:=2,ground:=dp} Yu Yp;have zK:x 2=Yy b:=d2;have⟨⟨D,y,J,L⟩,_⟩:=id f;rw[zK]at d |-;go_simp;refine(Bx b a n c D 8 w y Yv Yv Yv Yv).ah ?_;rintro e B ⟨r,rfl,r0,M,A,j⟩;exact d.out _ B ⟨r,rfl,r0,M⟩ j (Fx.call f A j Yv Yv)
  .dsimp only at d |-;go_simp;exact d.out _ _ ⟨w.1.size,rfl,f.2.2,Aa.new w [C0 ⟨#[112]⟩,C0 ⟨#[113]⟩,C0 ⟨#[114]⟩] 9⟩ (Al _ (Zy)) (f.alloc _)
  .dsimp only at d |-;go_simp;exact d.out _ w rfl (Bv _ _) f.ak
  .dsimp only at d |-;have d5:=u {on:=5,ground:=dp} Yu Yp;have zM:x 5=Yy b:=d5;have⟨⟨D,y,J,L⟩,_⟩:=id f;rw[zM]at d |-;go_simp;refine(Bx b a n c D 3 w y Yv Yv Yv Yv).ah ?_;rintro e B ⟨r,rfl,r0,M,A,j⟩;exact d.out _ B ⟨r.toNat,by congr 1;omega,Yv⟩ j (Fx.call f A j Yv Yv)
  .dsimp only at d |-;have d4:=u {on:=4,ground:=dp} Yu Yp;have d6:=u {on:=6,ground:=dp} Yu Yp;obtain⟨g,C,j,l⟩:=d4;obtain⟨r,F,y⟩:=d6;have zT:r<3:=y;rw[C,F]at d |-;go_simp;rcases(show r=0\/r=1\/r=2 by omega)with rfl|rfl|rfl
   .exact d.out _ w ⟨g,0,_,rfl,j,(l 0 _ rfl).1,Yq⟩ (Bv _ _) f.ak
   .exact d.out _ w ⟨g,1,_,rfl,j,(l 1 _ rfl).1,Yq⟩ (Bv _ _) f.ak
   exact d.out _ w ⟨g,2,_,rfl,j,(l 2 _ rfl).1,Yq⟩ (Bv _ _) f.ak
  .dsimp only at d |-;have d7:=u {on:=7,ground:=dp} Yu Yp;obtain⟨g,k',s,C,j,l,hs⟩:=d7;rw[C]at d |-;go_simp;exact d.out _ w ⟨s,rfl,hs⟩ (Bv _ _) f.ak
  .dsimp only at d |-;go_simp;exact d.out _ w rfl (Bv _ _) f.ak
  .dsimp only at d |-;have d9:=u {on:=9,ground:=dp} Yu Yp;have zN:x 9=Yy b:=d9;have⟨⟨D,y,J,L⟩,_⟩:=id f;rw[zN]at d |-;go_simp;refine(Bx b a n c D 40 w y Yv Yv Yv Yv).ah ?_;rintro e B ⟨r,rfl,r0,M,A,j⟩;exact d.out _ B ⟨r,rfl,r0,M⟩ j (Fx.call f A j Yv Yv)
  .dsimp only at d |-;go_simp;exact d.out _ _ ⟨w.1.size,rfl,f.2.2,Aa.new w [Zg 1,Zg 3,Zg 10,Zg 40,Zg 200] 3⟩ (Al _ (Zy)) (f.alloc _)
  .dsimp only at d |-;go_simp;exact d.out _ w rfl (Bv _ _) f.ak
  .dsimp only at d |-;have zG:=u {on:=12,ground:=dp} Yu Yp;have zA:x 12=Yy b:=zG;have⟨⟨D,y,J,L⟩,_⟩:=id f;rw[zA]at d |-;go_simp;refine(Bx b a n c D 5 w y Yv Yv Yv Yv).ah ?_;rintro e B ⟨r,rfl,r0,M,A,j⟩;exact d.out _ B ⟨r.toNat,by congr 1;omega,Yv⟩ j (Fx.call f A j Yv Yv)
  .dsimp only at d |-;have zF:=u {on:=11,ground:=dp} Yu Yp;have zH:=u {on:=13,ground:=dp} Yu Yp;obtain⟨g,C,j,l⟩:=zF;obtain⟨r,F,y⟩:=zH;have zT:r<5:=y;rw[C,F]at d |-;go_simp;rcases(show r=0\/r=1\/r=2\/r=3\/r=4 by omega)with rfl|rfl|rfl|rfl|rfl
   .exact d.out _ w ⟨g,0,_,rfl,j,(l 0 _ rfl).1⟩ (Bv _ _) f.ak
   .exact d.out _ w ⟨g,1,_,rfl,j,(l 1 _ rfl).1⟩ (Bv _ _) f.ak
   .exact d.out _ w ⟨g,2,_,rfl,j,(l 2 _ rfl).1⟩ (Bv _ _) f.ak
   .exact d.out _ w ⟨g,3,_,rfl,j,(l 3 _ rfl).1⟩ (Bv _ _) f.ak
   exact d.out _ w ⟨g,4,_,rfl,j,(l 4 _ rfl).1⟩ (Bv _ _) f.ak
  .dsimp only at d |-;have zI:=u {on:=14,ground:=dp} Yu Yp;obtain⟨g,k',t,C,j,l⟩:=zI;rw[C]at d |-;go_simp;exact d.out _ w ⟨t,rfl⟩ (Bv _ _) f.ak
  .dsimp only at d |-;have d1:=u {on:=1,ground:=dp} Yu Yp;have d3:=u {on:=3,ground:=dp} Yu Yp;have d8:=u {on:=8,ground:=dp} Yu Yp;have zE:=u {on:=10,ground:=dp} Yu Yp;have zJ:=u {on:=15,ground:=dp} Yu Yp;obtain⟨s,C,J⟩:=d1;obtain⟨r,F,L,Y⟩:=d3;obtain⟨q,e3,h4⟩:=d8;obtain⟨m,e4,h5,h6⟩:=zE;obtain⟨z,e5⟩:=zJ;rw[C,F,e3,e4,e5]at d |-;go_simp;exact d.out _ w ⟨s,r,q,m,z,rfl,J,L,Y,h4,h5,h6⟩ (Bv _ _) f.ak
  dsimp only at d |-;go_simp;exact d.out _ _ ⟨w.1.size,rfl,f.2.2,Aa.new w Xz 42⟩ (Al _ (Zy)) (f.alloc _)
 intro o x w8 R f hT K d;cases R;rw[if_pos Yp];obtain⟨g,C,j,l⟩:=hT 17 Yv;obtain⟨s,r,q,m,z,F,J,L,Y,h4,h5,h6⟩:=hT 16 Yv;dsimp only;rw[C,F];obtain⟨H,I,N,S,U,V⟩:=Zn (l 0 _ rfl) (Zn (l 1 _ rfl) (Zn (l 2 _ rfl) (Zn (l 3 _ rfl) (Zn (l 4 _ rfl) (l 5 _ rfl)))));go_simp;refine d.out _ _ ?_;have⟨Z,G⟩:=Ag (el (el (el (el (el (el w8 (Zd g 0) Ze) (Zd g 1) (C0 s)) (Zd g 2) (Zg r)) (Zd g 3) (C0 q)) (Zd g 4) (Zg m)) (Zd g 5) (Zg z));have xZ:Aa Z g [Ze,C0 s,Zg r,C0 q,Zg m,Zg z]:=by rw[G];exact(((((l.set 0 _).set 1 _).set 2 _).set 3 _).set 4 _).set 5 _
 have P:Tn [g] w8 Z:=by rw[G];exact(((((Bi _ _ _ _).ag (Bi _ _ _ _)).ag (Bi _ _ _ _)).ag (Bi _ _ _ _)).ag (Bi _ _ _ _)).ag (Bi _ _ _ _)
 rw[<-G];clear G H I N S U V l C F hT;obtain⟨⟨D,y,q1,q2⟩,U,zP⟩:=f;have gZ:ek w8 Z (ai g):=⟨P.os,P.tape,P.output,P.size,λi Q V=>P.block i Q gA⟩;have bl:=E.2.2;have rZ:=y.grown gZ Yv;have xq:=(HX.az U Yv).az gZ (C8 E.2.1);go_wp2_with fail;refine(Bx b a n c D 20 Z rZ Yv Yv Yv Yv).ah ?_;rintro e w1 ⟨k,rfl,k0,k1,M,X⟩;have x1:=xZ.az X Yv;have y1:=xq.az X Yv;have HE:Hid (∀N,Tn [g,w.1.size] w1 N->JG w N b a n c p 300):=λN l=>by
  have zU:=E.2.1;have S:Tn [b,g,w.1.size] W N:=(((Tn.grown U Yu).ag (P.ah Yu)).ag (Tn.grown X Yu)).ag (l.ah Yu);refine⟨⟨D+1,?_,Yv,Yv⟩,?_⟩
  .exact(M.O l Yt Yt)
  exact⟨S.os.ag E.1.os,S.tape.ag E.1.tape,S.output.ag E.1.output,Zm E.1.size S.size,λi Q V=>(S.block i Yv (by simp at V |-;omega)).ag (E.1.block i Q)⟩
 have HQ:Hid (s.size<=16/\0<=r/\r<8/\q.size<=1/\0<=m/\m<40):=gH;obtain⟨a0,a1,a2,a3,a4,a5⟩:=Aa.c6 x1 0 1 2 3 4 5;obtain⟨⟨l,C,F,G,H,I⟩,fa,fb⟩:=Aa.c6 y1 0 1 2 3 4 5,x1.fz,y1.fz;have V:¬g=w.1.size:=C8 E.2.1;clear U gZ P rZ xq xZ x1 y1 X M E HB HX zB y q1 q2 J L Y h4 h5 h6 zP bl h zO j hp zS;have j:Hid (∀(kd:Int) N,Tn [g,w.1.size] w1 N->∃J T O E y L,Ending.returned (ca #[Zg kd,C0 s,Zg r,C0 q,Zg m,Zg z])=C1 (ca #[Zg J,C0 T,Zg O,C0 E,Zg y,Zg L])/\T.size<=16/\0<=O/\O<8/\E.size<=1/\0<=y/\y<40/\JG w N b a n c p 300):=gD;clear HE HQ;go_wp2
 .exact Co (ca #[Zg 1,C0 s,Zg r,C0 q,Zg m,Zg z]) D9 (j 1 _ Hg)
 .exact Co (ca #[Zg 2,C0 s,Zg r,C0 q,Zg m,Zg z]) D9 (j 2 _ Hg)
 .exact Co (ca #[Zg 3,C0 s,Zg r,C0 q,Zg m,Zg z]) D9 (j 3 _ Hg)
 .exact Co (ca #[Zg 4,C0 s,Zg r,C0 q,Zg m,Zg z]) D9 (j 4 _ Hg)
 .exact Co (ca #[Zg 5,C0 s,Zg r,C0 q,Zg m,Zg z]) D9 (j 5 _ Hg)
 .exact Co (ca #[Zg 6,C0 s,Zg r,C0 q,Zg m,Zg z]) D9 (j 6 _ Hg)
 .exact Co (ca #[Zg 8,C0 s,Zg r,C0 q,Zg m,Zg z]) D9 (j 8 _ Hg)
 .exact Co (ca #[Zg 9,C0 s,Zg r,C0 q,Zg m,Zg z]) D9 (j 9 _ Hg)
 exact Co (ca #[Zg 10,C0 s,Zg r,C0 q,Zg m,Zg z]) D9 (j 10 _ Hg)
def Sb(t:Zi)(ss:Zl):Prop:=t.size<=2001/\ed ss<=31/\∀s∈ss,s.size<=8
structure Ol (w wx:Zh) (b B:Nat) (a:Zk) (n c:Nat) (t:Zi) (ra:Zk) (rc:Nat) (ss:Zl) (p:Int):Prop where
 cB:Aa wx B [.string t,bx ra (ed ss) rc]
 bd:Sb t ss
 own:ej wx (w.1.size+1) 9 1 (bx ra (ed ss) rc) (ed ss) (ss.map Value.string)
 br:∀k,(Value.slice ra (ed ss) rc).ownBlock=ai k->k≠b/\k≠B
 rd:AP wx b a n c p
 fy:Aa wx w.1.size [Zc,Zb]
 cn:bg w.1.size w wx
theorem Ol.pick{m j:Zh}{t:Zi}{f:Zk}{i:Zl}{l:Int}(h:Ol w m b B a n c t f g i p)(r:w.1.size<b)(o:b<B)(q:AP j b a n c l)(d:ek m j (ai b)):Ol w j b B a n c t f g i l:=
 ⟨h.cB.br d o,h.bd,h.own.kept d (by
  cases hv:(Cw f i g).ownBlock with
  |none=>exact .inl rfl
  |some k=>exact .inr (λe=>(h.br k hv).1 (A2 e))),h.br,q,h.fy.az d Yv,h.cn.grown d h.cn.size (λk e=>by cases e;omega)⟩
structure Rh (w w':Zh) (e:Ending):Prop where
 ex:∃(t:Zi) (ra:Zk) (rc:Nat) (ss:Zl) (wd:Int),e=.returned (.tuple #[ca #[.string t,bx ra (ed ss) rc],Zg wd])/\Sb t ss/\0<=wd/\wd<=9/\ej w' w.1.size 9 1 (bx ra (ed ss) rc) (ed ss) (ss.map Value.string)
 cn:bg w.1.size w w'
theorem Li(a:Zk)(n c:Nat)(w:Zh)(hn:n<=maxLen)(y:n=0\/∃q f,a=ai ⟨q,f,an⟩/\q<w.1.size/\∀j,j<n->∃x:Int,eh w (Zd q (f+j))=ai (.int .u8 x)/\0<=x/\x<256)(hc:n<=c):
 D4 42 #[Cx a n c] w λe d=>Rh w d e:=by
 have⟨s,g⟩:=Du w #[Zc,Zb] 48;have d:bg w.1.size w s:=by rw[g];exact Zy
 have u:Aa s w.1.size [Zc,Zb]:=by rw[g];exact Aa.new w _ _
 have o:n=0\/∃q f,a=ai ⟨q,f,an⟩/\q<s.1.size/\∀j,j<n->∃x:Int,eh s (Zd q (f+j))=ai (.int .u8 x)/\0<=x/\x<256:=by
  rcases y with h|⟨q,f,ha,W,hx⟩
  .exact .inl h
  refine .inr ⟨q,f,ha,Zr W d.size,λj i=> ?_⟩;have⟨x,h1,h2⟩:=hx j i;exact⟨x,(d.cell (p:=⟨q,f+j,an⟩) W).ag h1,h2⟩
 have zM:w.1.size<s.1.size:=u.lt;obtain⟨m,l,i⟩:=Yw g,Yw (Zn u d),Yw o;clear g u d o y;delta D4;go_in;go_upto_region 1 with fail;rw[<-m.o];clear m;go_wp2_with fail;refine(JF a n c s hn i hc).ah ?_;rintro e w1 ⟨o,m,rfl,g,d⟩;obtain⟨z,y,b,u⟩:=l.1.A d,l.2.ag (d.ah l.2.size),Ag s.1.size;rw[<-u]at g |-;have I:w.1.size<b:=Yv;have zG:=g.lt;clear u i l d;go_wp2_with fail;refine(OU g Yv Yv).ah ?_;rintro e Z ⟨wd,rfl,⟨zE,zF⟩,J,d⟩;have L:=z.az d Yv;have l:bg w.1.size w Z:=y.grown d y.size (λk e=>by cases e;omega);clear g d z y;go_wp2_with fail;refine(OV wd J Yv Yv zE zF).ah ?_;rintro e C ⟨⟨t,F,G,H,rfl,Q,P,O,N⟩,⟨E,S,l3,u3⟩,z⟩;have⟨D,g⟩:=Du C #[C0 t,Cw F H G] 48;have d:bg C.1.size C D:=by rw[g];exact Zy
 have zH:=z.size;have zN:=L.lt;have y:Hid (Ol w D b C.1.size a o m t F G H E):=by
  refine⟨by rw[g];exact Aa.new C _ _,⟨Yv,Yv,O⟩,(N.kept (Al an d) (Classical.em _)).ah Yv,λk R=> ?_,S.A d,(L.az z Yv).A d,?_⟩
  .have:=N.lt k R;have:=J.lt;omega
  exact(l.grown z l.size (λk e=>by cases e;omega)).ag (d.ah (C8 l.size))
 have⟨B,M⟩:=Ag C.1.size;rw[<-M]at y;have A:b<B:=C8 J.lt;obtain⟨K,i,u⟩:=Yw g,Yw M,Yw (Zn Q (Zn P O));clear g M d N J S z L l Q P O;go_upto_region 4 with fail;rw[<-K.o,<-i.o];clear K i;go_wp2_with fail;refine(Bx b a o m E 4 D y.rd Yv Yv Yv Yv).ah ?_;rintro e S ⟨r,rfl,r0,r1,i,g⟩;have d:Hid (Ol w S b B a o m t F G H (E+1)):=y.pick I A i g;clear i g y;go_upto_if 16 with fail;go_cut [] (λT=>∃(y:Zi) (g:Zk) (i:Nat) (l:Zl) (z:Int),0<=z/\z<=200/\Hid (Ol w T b B a o m y g i l z))
 case first=>
  by_cases c0:r=0
  .subst c0;obtain⟨⟨U,O⟩,⟨V,P⟩,HN⟩:=d.cB 0 _ rfl,d.cB 1 _ rfl,Yw (Qg d.own);have K:B<S.1.size:=d.cB.lt;go_wp2_with fail;refine(Nu t F G H d.rd Yv Yv HN.1 HN.2 u.1 u.2.1 u.2.2).ah ?_;rintro e w6 ⟨⟨y,g,i,l,rfl,zC,zA,zB,L⟩,⟨p6,s6,l6,u6⟩,Q⟩;have N:=d.cB.br Q A;have R6:=d.fy.az Q Yv;have B6:bg w.1.size w w6:=d.cn.grown Q d.cn.size (λk e=>by cases e;omega);have zK:=d.fy.lt;clear U O V P;obtain⟨⟨U,O⟩,V,P⟩:=N 0 _ rfl,N 1 _ rfl;go_wp2_with fail;go_meet;refine⟨y,g,i,l,p6,Yv,Yv,(N.set 0 _).set 1 _,⟨zC,zA,zB⟩,?_,?_,?_,?_,?_⟩
   .exact(ownsRow_setCell_below (ownsRow_setCell_below L (a:=⟨B,0,an⟩) K _) (a:=⟨B,1,an⟩) K _).ah Yv
   .intro k R;have:=L.lt k R;omega
   .exact(s6.grown (Ao _ B 0 _) Yv).grown (Ao _ B 1 _) Yv
   .exact(R6.az (Ao _ B 0 _) Yv).az (Ao _ B 1 _) Yv
   exact(B6.setCell (p:=⟨B,0,an⟩) Yt _).setCell (p:=⟨B,1,an⟩) Yt _
  have d0:(r==0)=ba:=C9 c0;go_wp2_with fail;go_meet;exact⟨t,F,G,H,E+1,Yv,Yv,d⟩
 case rest=>
 revert wc;intro w7 hcut;obtain⟨y,g,i,l,z,zI,zJ,M⟩:=hcut;clear d u;go_wp2_with fail;refine(Bx b a o m z 10 w7 M.rd Yv Yv Yv Yv).ah ?_;rintro e j ⟨Y,rfl,zO,zP,u,d⟩;have J:Hid (Ol w j b B a o m y g i l (z+1)):=M.pick I A u d;clear u d M;go_upto_if 22 with fail;go_cut [5] (λv T=>∃(u X:Int),v=Zg u/\0<=u/\u<=9/\Hid (Ol w T b B a o m y g i l X))
 case first=>
  by_cases c0:Y=0
  .subst c0;go_wp2_with fail;refine(Bx b a o m (z+1) 10 j J.rd Yv Yv Yv Yv).ah ?_;rintro e w9 ⟨r9,rfl,zS,zT,T,M⟩;have d:=J.pick I A T M;clear T M;go_wp2_with fail;go_meet;exact⟨r9,_,rfl,Yv,Yv,d⟩
  have d0:(Y==0)=ba:=C9 c0;go_wp2_with fail;go_meet;exact⟨wd,_,rfl,Yv,Yv,J⟩
 case rest=>
 revert wc;intro w9 hcut;obtain⟨u,X,rfl,M,T,d⟩:=hcut;clear J;obtain⟨⟨U,O⟩,⟨V,P⟩,⟨y0,q0⟩,y1,q1⟩:=d.cB 0 _ rfl,d.cB 1 _ rfl,d.fy 0 _ rfl,d.fy 1 _ rfl;go_wp2;refine Co (.tuple #[ca #[C0 y,Cw g l i],Zg u]) (by simp[results,results42,go_sem, *]) ?_;have J:w.1.size<w.1.size+1:=Nat.lt_succ_self _;refine⟨⟨y,g,i,l,u,rfl,d.bd,M,T,?_⟩,?_⟩
 .exact(ownsRow_setCell_below (ownsRow_setCell_below d.own (a:=⟨w.1.size,0,an⟩) J _) (a:=⟨w.1.size,1,an⟩) J _).ah Yv
 exact(d.cn.setCell (p:=⟨w.1.size,0,an⟩) (Zx) _).setCell (p:=⟨w.1.size,1,an⟩) (Zx) _
structure Agf (w w':Zh) (e:Ending) (b:Nat) (a:Zk) (n c:Nat) (p:Int) (m:Nat):Prop where
 ex:∃T:Zi,e=.returned (.string T)/\T.size<=m+4
 R:JG w w' b a n c p 3
def Aey:Array Value:= #[.string ⟨#[32]⟩,.string ⟨#[10]⟩,.string ⟨#[0]⟩,.string ⟨#[45]⟩,.string ⟨#[48]⟩,.string ⟨#[120]⟩,.string ⟨#[37,122,122]⟩,.string ⟨#[37,52]⟩]
theorem WS(k:Nat)(h:k<8):∃X:Zi,Aey[k]?=ai (C0 X)/\X.size<=4:=by
 match k,h with
 |0,_=>exact⟨_,rfl,Yq⟩
 |1,_=>exact⟨_,rfl,Yq⟩
 |2,_=>exact⟨_,rfl,Yq⟩
 |3,_=>exact⟨_,rfl,Yq⟩
 |4,_=>exact⟨_,rfl,Yq⟩
 |5,_=>exact⟨_,rfl,Yq⟩
 |6,_=>exact⟨_,rfl,Yq⟩
 |7,_=>exact⟨_,rfl,Yq⟩
theorem Om(W:Zh)(k:Nat)(h:k<8):∃X:Zi,eh (W.alloc (bs #[C0 ⟨#[32]⟩,C0 ⟨#[10]⟩,C0 ⟨#[0]⟩,C0 ⟨#[45]⟩,C0 ⟨#[48]⟩,C0 ⟨#[120]⟩,C0 ⟨#[37,122,122]⟩,C0 ⟨#[37,52]⟩] 9)) (Zd (W.1.size) k)=ai (C0 X)/\X.size<=4:=by have⟨X,a,b⟩:=WS k h;exact⟨X,by rw[cell?_alloc_at _ _ _ _ rfl];exact a,b⟩
theorem Ta(s:Zi)(h:AP w b a n c p)(E:0<=p)(J:p<=800000)(Q:s.size<=9000):
 D4 44 #[Yy b,C0 s] w λe d=>Agf w d e b a n c p s.size:=by
 have H:=h.lt;have HS:=Yw h;clear h;delta D4;go_in;go_wp2_with fail;refine(Bx b a n c p ((s.size:Int)+1) w HS E Yv Yv Yv).ah ?_;rintro e G ⟨y,rfl,R,S,f,d⟩;obtain⟨i,rfl⟩:∃i:Nat,y=i:=⟨y.toNat,Yv⟩;have g:=Yw (Zn f d);clear f d HS;go_wp2_with fail;refine(Bx b a n c (p+1) 4 G g.1 Yv Yv Yv Yv).ah ?_;rintro e d ⟨r,rfl,r0,T,l,j⟩;have f:Hid (AP d b a n c (p+1+1)/\ek w d (ai b)):=⟨l,g.2.ag j⟩;clear l j g;have D:i<=s.size:=Yv;by_cases c0:r=0
 .subst c0;go_wp2;go_ret;exact⟨⟨_,rfl,Yt⟩,⟨_,f.1,Yv,Yv⟩,f.2⟩
 have N:(r==0)=ba:=C9 c0;by_cases c1:r=1
 .subst c1;have q:bg d.1.size d (d.alloc (bs #[C0 ⟨#[32]⟩,C0 ⟨#[10]⟩,C0 ⟨#[0]⟩,C0 ⟨#[45]⟩,C0 ⟨#[48]⟩,C0 ⟨#[120]⟩,C0 ⟨#[37,122,122]⟩,C0 ⟨#[37,52]⟩] 9)):=Zy;have v:=Yw (f.1.A (Below.refl d.1.size d).drew);have F:=Yw (f.1.A q.drew);go_upto_region 6 with fail;go_region_with (first
   |(go_at_call 14;refine(Bx b a n c (p+1+1) 8 d.drew v Yv Yv Yv Yv).ah ?_;rintro e j ⟨g,rfl,t,u,o,m⟩;obtain⟨k,rfl⟩:∃k:Nat,g=k:=⟨g.toNat,Yv⟩;have⟨X,x,hXs⟩:=Om j k Yv;have l:Hid (AP j b a n c (p+1+1+1)/\ek w j (ai b)):=⟨o,(f.2.ag (Al (ai b) (Below.refl d.1.size d).drew)).ag m⟩)
   |(go_at_call 14;refine(Bx b a n c (p+1+1) 8 _ F Yv Yv Yv Yv).ah ?_;rintro e j ⟨g,rfl,t,u,o,m⟩;obtain⟨k,rfl⟩:∃k:Nat,g=k:=⟨g.toNat,Yv⟩;have⟨X,hX',hXs⟩:=Om d k Yv;have x:=(m.cell_far ⟨d.1.size,k,an⟩ Yu (Jg f.1.lt)).ag hX';have l:Hid (AP j b a n c (p+1+1+1)/\ek w j (ai b)):=⟨o,(f.2.ag (Al (ai b) q.drew)).ag m⟩))
  all_goals clear x
  all_goals go_wp2
  all_goals go_ret
  all_goals
   refine⟨⟨_,rfl,by simp[ByteArray.size_append];omega⟩,⟨p+1+1+1,?_,Yv,Yv⟩,?_⟩
   .first|exact l.1|exact l.1.A (Zy)
   first|exact l.2|exact l.2.ag (grownBy_alloc _ _ _)
 have O:(r==1)=ba:=C9 c1;by_cases hlt:i<s.size
 case neg=>
  have C:decide ((i:Int)<(s.size:Int))=ba:=decide_eq_false Yv;by_cases c2:r=2
  .subst c2;go_wp2;go_ret;exact⟨⟨_,rfl,Yv⟩,⟨_,f.1,Yv,Yv⟩,f.2⟩
  have B:(r==2)=ba:=C9 c2;go_wp2;go_ret;exact⟨⟨_,rfl,Yv⟩,⟨_,f.1,Yv,Yv⟩,f.2⟩
 have C:decide ((i:Int)<(s.size:Int))=true:=decide_eq_true Yv;by_cases c2:r=2
 .subst c2;go_upto_region 9 with fail;go_quiet (fail);go_wp2;go_ret;exact⟨⟨_,rfl,by simp[ByteArray.size_append];omega⟩,⟨_,f.1.drewN _,Yv,Yv⟩,Lu f.2 _⟩
 have B:(r==2)=ba:=C9 c2;have v:=Yw (f.1.A (Below.refl d.1.size d).drew);have M:IntKind.i64.wrap ((i:Int)+1)=(i:Int)+1:=Dq Yv Yv;have I:(i:Int)+1<=(s.size:Int):=Yv;have z:(0:Int)<=(i:Int)+1:=Yv;have A:((i:Int)+1).toNat=i+1:=Yv
 go_upto_region 11 with fail;go_region_with (first
  |(go_at_call 14;refine(Bx b a n c (p+1+1) 256 d.drew v Yv Yv Yv Yv).ah ?_;rintro e j ⟨g,rfl,t,u,o,m⟩;have L:IntKind.u8.wrap g=g:=Ns t u;have x:=run_convert_bytes_arg (P:=prog) (j.alloc (bs #[.int .u8 g] 5)) 22 5 underlying22 underlying5 j.1.size 0 1 1 [g] rfl (λi D=>by obtain rfl:i=0:=Yv;simp) 9 underlying9;have K:=EY [g];have l:Hid (AP j b a n c (p+1+1+1)/\ek w j (ai b)):=⟨o,(f.2.ag (Al (ai b) (Below.refl d.1.size d).drew)).ag m⟩))
 all_goals clear x
 all_goals go_wp2
 all_goals go_ret
 all_goals
  refine⟨⟨_,rfl,by simp[ByteArray.size_append,EY];omega⟩,⟨p+1+1+1,?_,Yv,Yv⟩,?_⟩
  .first|exact l.1|exact l.1.A (Zy)
  first|exact l.2|exact l.2.ag (grownBy_alloc _ _ _)
structure WT (w w':Zh) (e:Ending) (m:Nat):Prop where
 ex:∃(T:Zi) (wd:Int),e=.returned (.tuple #[.string T,Zg wd])/\T.size<=m/\0<=wd/\wd<=9
 cn:bg w.1.size w w'
theorem OW(t:Zi)(a:Zl)(c:Int):(AH t a c).size<=2300:=by
 unfold AH;split
 .rename_i h
  have p:=Bs h;have b:(ByteArray.mk (Bu t a).toArray).size=ed (Bu t a):=rfl;have d:=p.bu;have e:=p.Q;rw[b];unfold Bu;rw[length_cons,Am,De];have:ed t.data.toList=t.size:=rfl;omega
 exact gA
theorem Lj(a:Zk)(n c:Nat)(w:Zh)(O:n<=maxLen)(f:n=0\/∃q d,a=ai ⟨q,d,an⟩/\q<w.1.size/\∀j,j<n->∃x:Int,eh w (Zd q (d+j))=ai (.int .u8 x)/\0<=x/\x<256)(N:n<=c):
 D4 11 #[Cx a n c] w λe g=>WT w g e 2310:=by
 have l:=Yw f;clear f;delta D4;go_in;go_wp2_with fail;refine(JF a n c w O l N).ah ?_;rintro e K ⟨H,G,rfl,J,g⟩;have f:n=0\/∃q d,a=ai ⟨q,d,an⟩/\q<K.1.size/\∀j,j<n->∃x:Int,eh K (Zd q (d+j))=ai (.int .u8 x)/\0<=x/\x<256:=by
  rcases l.o with h|⟨q,d,W,Q,X⟩
  .exact .inl h
  refine .inr ⟨q,d,W,Zr Q g.size,λj i=> ?_⟩;have⟨x,U,V⟩:=X j i;exact⟨x,(g.cell (p:=⟨q,d+j,an⟩) Q).ag U,V⟩
 have⟨b,i⟩:=Ag w.1.size;rw[<-i]at J |-;have j:w.1.size<=b:=Yv;have S:=Yw f;have D:=Yw g;clear f l g i;go_wp2_with fail;refine(Li a n c K O S N).ah ?_;rintro e m ⟨⟨t,y,I,l,g,rfl,⟨ht,hl,hs⟩,A,B,P⟩,u⟩;obtain⟨z,f,i⟩:=(Qg P).1,Du m #[C0 t,Cw y l I] 48;have s:bg m.1.size m f:=by rw[i];exact Zy
 have E:Aa f m.1.size [C0 t,Cw y l I]:=by rw[i];exact Aa.new m _ _
 have o:=u.ag (s.ah u.size);have R:=J.A o;have M:Hid (Ad f f.1.size y l):=z.U s;have C:Hid (Zz w f):=D.ag (o.ah D.size);obtain⟨⟨Y,_⟩,⟨Z,_⟩,HS,L⟩:=E 0 _ rfl,E 1 _ rfl,Yw R,Yw i;clear i s E o u P z J R D;go_upto_region 3 with fail;rw[<-L.o];clear L;go_wp2_with fail;refine(Kh t I g M Yv Yo).ah ?_;rintro e o ⟨rfl,i⟩;have L:=OW t l g;generalize AH t l g=F at *
 have E:Hid (AP o b a H G 0):=HS.A i;have s:Hid (Zz w o):=C.ag (i.ah C.size);clear Y Z i HS C M;go_wp2_with fail;refine(Bx b a H G 0 2 o E Yv Yv Yv Yv).ah ?_;rintro e C ⟨r,rfl,r0,M,z,u⟩;have i:Hid (Zz w C):=s.grown u s.size (λk e=>by cases e;omega);have D:=Yw z;clear z u;by_cases c0:r=0
 .subst c0;go_wp2_with fail;refine(Ta F D Yv Yv Yv).ah ?_;rintro e J ⟨⟨T,rfl,hT⟩,⟨_,u⟩⟩;have z:Hid (Zz w J):=i.grown u i.size (λk e=>by cases e;omega);clear u;go_wp2;exact Co (.tuple #[C0 T,Zg g]) (by simp[results,results11,go_sem]) ⟨⟨T,g,rfl,Yv,A,B⟩,z⟩
 have u:(r==0)=ba:=C9 c0;go_wp2;exact Co (.tuple #[C0 F,Zg g]) (by simp[results,results11,go_sem]) ⟨⟨F,g,rfl,Yv,A,B⟩,i⟩
theorem Abc(c:Nat){b:Zl}(x:Zi)(d:Ad w w.1.size a b)(t:ed b<=1048576)(o:x∈b):
 D4 9 #[Cx a (ed b) c,C0 x] w λe f=>e=C1 (.bool true)/\Zz w f:=by
 have⟨i,g⟩:=A3 o;have m:Hid (Ad w w.1.size a b):=d;clear d;delta D4;go_in;go_wp2;go_loopw [5] (λj wr=>∃k:Nat,k<=i/\j=Zg k/\wr=w) (λj _=>ed b -(intOf j).toNat)
 case atStart=>exact⟨0,Aw _,rfl,rfl⟩
 obtain⟨k,s,rfl,rfl⟩:=hrel;have p:=(Zw g).1;have d:k<ed b:=Yv;have⟨u,v,n,q,f⟩:=m.at d;subst n;have r:=f k _ (Zv d);have l:Hid (b[k]?=ai b[k]):=Zv d;clear f;generalize b[k]=y at *
 by_cases hxy:y=x
 .subst hxy;have b:(y.toList==y.toList)=true:=Yu;go_wp2;go_ret;exact⟨rfl,Ae⟩
 have b:=BZ hxy;have f:k≠i:=λe=>by have h:=l.o;rw[e,g]at h;exact hxy (A2 h).symm
 go_wp2;exact⟨⟨k+1,Yv,Yn,trivial⟩,Ys⟩
structure Ac where
 N:Int
 Y:Zi
 V:Int
 T:Zi
 pk:Int
 tk:Int
def BW(x:Ac):Zj:=[Zg x.N,.string x.Y,Zg x.V,.string x.T,Zg x.pk,Zg x.tk]
def Ac.ok(x:Ac):Prop:=x.Y.size<=16/\0<=x.V/\x.V<8/\x.T.size<=1/\0<=x.pk/\x.pk<40
theorem Abd:(prog.info? 42).map (λi=>(i.zero,i.size,i.bytes))=ai (ai (ca Ya),6,64):=Yr
theorem Qi(c:Nat)(hn:n<=maxLen)(b:Sa w a n)(hc:n<=c):
 D4 5 #[bx a n c] w λe d=>∃(g k:Nat) (L:List Ac),e=.returned (Yz g (ed L) k)/\ej d w.1.size 42 6 (Yz g (ed L) k) (ed L) (Af BW L)/\ed L<=39/\(∀x∈L,x.ok)/\Zz w d:=by
 have v:=Yw (JF a n c w hn b hc);clear b;delta D4;go_in;go_wp2_with fail;refine v.Ak ?_;clear v;rintro e b ⟨A,y,rfl,s,d⟩;have B:Hid (Zz w b/\w.1.size<b.1.size/\AP b w.1.size a A y 0):=⟨d,s.lt,s⟩;clear d s;have h:ej (b.alloc (bs #[] 42)) b.1.size 42 6 (Yz b.1.size 0 0) 0 (Af BW []):=ownsRow_lit b #[] 0 Yv Yo rfl;have d:bg b.1.size b (b.alloc (bs #[] 42)):=Zy;have f:Hid (ej (b.alloc (bs #[] 42)) b.1.size 42 6 (Yz b.1.size (ed ([]:List Ac)) 0) (ed ([]:List Ac)) (Af BW [])/\AP (b.alloc (bs #[] 42)) w.1.size a A y 0/\ek b (b.alloc (bs #[] 42)) (ai w.1.size)):=⟨h,B.2.2.A d,Al _ d⟩;clear h d;go_wp2_with fail;refine(Bx w.1.size a A y 0 16 _ f.2.1 Yv Yv Yv Yv).ah ?_;rintro e w2 ⟨T,rfl,zE,zF,m,h⟩;go_wp2_with fail;refine(Bx w.1.size a A y (0+1) 8 w2 m Yv Yv Yv Yv).ah ?_;rintro e D ⟨M,rfl,zG,zH,K,l⟩;have d:Hid (ej D b.1.size 42 6 (Yz b.1.size (ed ([]:List Ac)) 0) (ed ([]:List Ac)) (Af BW [])/\AP D w.1.size a A y (0+1+1)/\ek b D (ai w.1.size)):=⟨(f.1.kept h (.inr (by have:=B.2.1;simp[ownBlock];omega))).kept l (.inr (by have:=B.2.1;simp[ownBlock];omega)),K,AF (AF f.2.2 h) l⟩;clear m h K l f;go_upto_if 15 with fail;go_cut [5,15] (λf _ h=>Hid (∃k:Nat,f=Zg k/\k<=39/\h=D))
 case first=>
  by_cases q8:M=0
  .have zA:(M==0)=true:=Yt;clear q8;go_wp2;go_meet;exact⟨T.toNat+24,Yn,Yv,rfl⟩
  have zA:(M==0)=ba:=Yt;clear q8;go_wp2_with fail;go_meet;exact⟨T.toNat+4,Yn,Yv,rfl⟩
 revert wc;intro w9 hcut;obtain⟨N,rfl,hN,rfl⟩:=hcut.o;clear hcut;go_wp2;go_loopw [4,6] (λf i wr=>∃(g k:Nat) (L:List Ac),f=Yz g (ed L) k/\i=Zg (ed L)/\ed L<=N/\Hid (ej wr b.1.size 42 6 (Yz g (ed L) k) (ed L) (Af BW L)/\(∃p:Int,AP wr w.1.size a A y p/\0<=p/\p<=2+300 *(ed L:Int))/\ek b wr (ai w.1.size)/\∀x∈L,x.ok)) (λ_ i _=>40 -(intOf i).toNat)
 case atStart=>exact⟨b.1.size,0,[],rfl,rfl,Aw _,d.1,⟨_,d.2.1,Yv,Yu⟩,d.2.2,Yu⟩
 clear d;obtain⟨g,k,L,rfl,rfl,hL,d⟩:=hrel;have⟨p,F,W,zC⟩:=d.2.1;by_cases hlt:ed L<N
 case neg=>
  have G:¬(ed L:Int)<(N:Int):=Yv;go_wp2;go_ret;exact⟨g,k,L,rfl,d.1.ah (C8 B.2.1),Yv,d.2.2.2,B.1.ag ⟨d.2.2.1.os,d.2.2.1.tape,d.2.2.1.output,d.2.2.1.size,λx z=>d.2.2.1.block x (C8 B.2.1) (λe=>by cases e;omega)⟩⟩
 have G:(ed L:Int)<(N:Int):=Yv;go_wp2_with fail;refine(Abb F W Yv).ah ?_;rintro e t ⟨f,q,m,h,l,o,rfl,a1,a2,a3,a4,a5,a6,⟨S,E,K,h4⟩,r⟩;have⟨i0,hi,X,Y,Z⟩:=info_parts Abd;have zB:b.1.size<=g:=(Ab d.1 rfl).1;have C:ai g≠ai w.1.size:=λe=>by have:=B.2.1;cases e;omega
 have v:Hid (ej t b.1.size 42 6 (Yz g (ed L) k) (ed L) (Af BW L)/\AP t w.1.size a A y S/\ek b t (ai w.1.size)/\b.1.size<=t.1.size):=⟨d.1.kept r (.inr C),E,AF d.2.2.1 r,Zm d.2.2.1.size r.size⟩;have O:Hid (∀x∈L++[⟨f,q,m,h,l,o⟩],x.ok):=λx z=>by
  rcases A5.1 z with z|z
  .exact d.2.2.2 x z
  rw[mem_singleton.1 z];exact⟨a1,a2,a3,a4,a5,a6⟩
 clear F E r C d;go_wp2_with (first
  |(at_builtin;refine wpList_append_lies _ rfl _ _ 37 rfl b.1.size 42 i0 _ 6 64 underlying37 hi X Y Z rfl Yq _ (ed L) (Af BW L) rfl ?d0 ⟨t.1.size,0,an⟩ 1 1 (Af BW [⟨f,q,m,h,l,o⟩]) rfl ?d6 ?d1 ?d2 Yq ?d3 ?d4 ?d5 _ rfl ?_)
  |go_in)
 case d0=>exact v.1.alloc _
 case d6=>rfl
 case d1=>exact λj u C=>by rw[A1,Ax];exact(Aa.new t (BW ⟨f,q,m,h,l,o⟩) 42 j u (by simpa [Af]using C)).1
 case d2=>intro u C;simp[Af,BW]at C;rcases C with rfl|rfl|rfl|rfl|rfl|rfl<;>rfl
 case d3=>unfold maxLen;omega
 case d4=>omega
 case d5=>have:=v.2.2.2;simp;omega
 intro Q R E I H F i;have r:ek (t.alloc (bs #[Zg f,.string q,Zg m,.string h,Zg l,Zg o] 42)) E (ai g):=H;have J:bg t.1.size t (t.alloc (bs #[Zg f,.string q,Zg m,.string h,Zg l,Zg o] 42)):=Zy;have P:ed (L++[(⟨f,q,m,h,l,o⟩:Ac)])=ed L+1:=Yu;have j:Hid (ej E b.1.size 42 6 (Yz Q (ed (L++[(⟨f,q,m,h,l,o⟩:Ac)])) R) (ed (L++[(⟨f,q,m,h,l,o⟩:Ac)])) (Af BW (L++[(⟨f,q,m,h,l,o⟩:Ac)]))/\(∃p:Int,AP E w.1.size a A y p/\0<=p/\p<=2+300 *(ed (L++[(⟨f,q,m,h,l,o⟩:Ac)]):Int))/\ek b E (ai w.1.size)/\∀x∈L++[(⟨f,q,m,h,l,o⟩:Ac)],x.ok):=by
  rw[Gx,Am,length_singleton];have hw:=B.2.1;have hz:=v.2.2.2;refine⟨I,⟨S,(v.2.1.A J).O (V:=[g]) (Tn.grown r Yu) Yt Yt,Yv,Yv⟩,?_,O⟩;have s:=AF v.2.2.1 (Al (ai w.1.size) J);exact⟨r.os.ag s.os,r.tape.ag s.tape,r.output.ag s.output,Zm s.size r.size,λx z U=>(r.block x (Zr z s.size) (λe=>by cases e;omega)).ag (s.block x z U)⟩
 clear I H r J v O F;go_wp2;exact⟨⟨Q,R,_,by rw[P],by rw[P];go_num,Yv,j⟩,Ys⟩
