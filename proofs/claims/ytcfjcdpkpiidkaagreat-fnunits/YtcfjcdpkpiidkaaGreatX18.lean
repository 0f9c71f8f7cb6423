import Derived.Test.YtcfjcdpkpiidkaaGreatX08
import Derived.Test.YtcfjcdpkpiidkaaGreatX11
set_option maxRecDepth 100000
set_option maxHeartbeats 16000000
namespace Go.Proofs.YtcfjcdpkpiidkaaGreat
open ChangeShapes WideShapes ChangeAt RowKit _root_.Go.Proofs.Tryz
variable{b e n c g k:Nat}{w f:Zh}{a:Zk}{p:Int}
def QN(b n0:Nat):Nat->Zh->Value->Prop
 |0,_,v|2,_,v|5,_,v|9,_,v|12,_,v=>v=.pointer (some ⟨b,0,none⟩)
 |1,_,v=>∃s,v=.string s/\s.size<=16
 |3,_,v=>∃r:Int,v=Zg r/\0<=r/\r<8
 |4,w,v=>∃g,v=.slice (some ⟨g,0,none⟩) 3 3/\n0<=g/\Aa w g [.string ⟨#[112]⟩,.string ⟨#[113]⟩,.string ⟨#[114]⟩]
 |6,_,v=>∃r:Nat,v=Zg r/\r<3
 |7,w,v=>∃g k s,v=.pointer (some ⟨g,k,none⟩)/\n0<=g/\w.cell? (Zd g k)=some (.string s)/\s.size<=1
 |8,_,v=>∃s,v=.string s/\s.size<=1
 |10,_,v=>∃r:Int,v=Zg r/\0<=r/\r<40
 |11,w,v=>∃g,v=.slice (some ⟨g,0,none⟩) 5 5/\n0<=g/\Aa w g [Zg 1,Zg 3,Zg 10,Zg 40,Zg 200]
 |13,_,v=>∃r:Nat,v=Zg r/\r<5
 |14,w,v=>∃g k t,v=.pointer (some ⟨g,k,none⟩)/\n0<=g/\w.cell? (Zd g k)=some (Zg t)
 |15,_,v=>∃t,v=Zg t
 |16,_,v=>∃s r nm pk tk,v=.agg #[Ze,.string s,Zg r,.string nm,Zg pk,Zg tk]/\s.size<=16/\0<=r/\r<8/\nm.size<=1/\0<=pk/\pk<40
 |17,w,v=>∃g,v=.pointer (some ⟨g,0,none⟩)/\n0<=g/\Aa w g [Ze,Zc,Ze,Zc,Ze,Ze]
 |_,_,_=>True
theorem TM(n:b<e):∀i w j v,w.grownBy j (some b)->QN b e i w v->QN b e i j v:=by
 intro i w j v f h;have l:∀g,e<=g->some g≠some b:=fun g c a=>by cases a;omega
 unfold QN at h |-;split at h<;>first
  |exact h
  |(obtain⟨g,c,a,d⟩:=h;exact⟨g,c,a,d.au f Yv⟩)
  |(obtain⟨g,k,s,c,a,d,m⟩:=h;exact⟨g,k,s,c,a,f.cell d (l g a),m⟩)
  |(obtain⟨g,k,s,c,a,d⟩:=h;exact⟨g,k,s,c,a,f.cell d (l g a)⟩)
def Er(w0:Zh)(b:Nat)(a:Zk)(n c:Nat)(p:Int)(n0 k:Nat)(w:Zh):Prop:=
 (∃p',AA w b a n c p'/\p<=p'/\p'<=p+10 *k)/\w0.grownBy w (some b)/\n0<=w.heap.size
theorem Er.call{i e:Zh}{d:Int}(h:Er i b a n c p g k w)(l:AA e b a n c d)(f:w.grownBy e (some b))(j:p<=d)(m:d<=p+10 *(k+1)):Er i b a n c p g (k+1) e:=
 ⟨⟨d,l,j,Yv⟩,Ap h.2.1 f,Zm h.2.2 f.size⟩
theorem Er.alloc(h:Er f b a n c p e k w)(o:Obj):Er f b a n c p e (k+1) (w.alloc o):=by have d:Below w.heap.size w (w.alloc o):=Zy;obtain⟨⟨l,j,g,m⟩,i,q⟩:=h;exact⟨⟨l,j.below d,g,Yv⟩,Ap i (Ak _ d),Yt⟩
theorem Er.ah{e:Zh}{d:Nat}(h:Er e b a n c p d k w):Er e b a n c p d (k+1) w:=by obtain⟨⟨i,g,f,j⟩,h⟩:=h;exact⟨⟨i,g,f,Yv⟩,h⟩
theorem Aa.fz{B:Nat}{l:Zj}(h:Aa w B l):∀j,j<l.length->w.frozen? ⟨B,j,none⟩=false:=fun j a=>(h j _ (Zv a)).2
theorem FT{q:Nat}{v a b c d e f:Value}:Tn [g,q] w (((((((w.setCell (Zd g 0) v).setCell (Zd q 0) a).setCell (Zd q 1) b).setCell (Zd q 2) c).setCell (Zd q 3) d).setCell (Zd q 4) e).setCell (Zd q 5) f):=
 have s:∀X j u,Tn [g,q] X (X.setCell (Zd q j) u):=fun X j u=>Tn.set X q j u Yu
 ((((((Tn.set w g 0 v Yu).trans (s _ _ _)).trans (s _ _ _)).trans (s _ _ _)).trans (s _ _ _)).trans (s _ _ _)).trans (s _ _ _)
theorem AA.J(h:AA w b a n c p){V:List Nat}(e:Tn V w f)(u:∀g∈V,b<g)(k:b∉V):AA f b a n c p:=by
 have i:=h.lt;have d:∀q j,q<=b->f.cell? (Zd q j)=w.cell? (Zd q j):=fun q j z=>World.cell?_of_block (e.block q Yv (fun l=>by have:=u q l;omega));refine⟨(d b 0 (Zx)).trans h.c0,(d b 1 (Zx)).trans h.c1,?_,Zr i e.size,h.n2,?_⟩
 .exact(World.frozen?_of_block (e.block b i k)).trans h.f1
 .rcases h.bytes with h|⟨q,off,t,m,y⟩
  .exact .inl h
  .refine .inr ⟨q,off,t,m,fun j v=> ?_⟩;obtain⟨x,o,r,s⟩:=y j v;exact⟨x,(d q (off+j) Yv).trans o,r,s⟩
theorem Vn(b:Nat)(a:Zk)(n c:Nat)(p:Int)(w:Zh)(h:AA w b a n c p)(hp:0<=p)(zU:p<=800000):
 Calls prog 51 #[Yy b] w fun e B=>∃kd tx T q l u,e=.returned (.agg #[Zg kd,.string tx,Zg T,.string q,Zg l,Zg u])/\tx.size<=16/\0<=T/\T<8/\q.size<=1/\0<=l/\l<40/\GD w B b a n c p 300:=by
 have zS:=h.lt;obtain⟨W,hW⟩:=Af (w.alloc (.cells Xt 102));obtain⟨bW,zW,xW⟩:=AL hW;have zE:Hid (Er W b a n c p W.heap.size 0 W.drew):=⟨⟨p,(h.below bW).drew,Int.le_refl _,Yv⟩,⟨rfl,rfl,rfl,Zx,fun _ _ _=>rfl⟩,Zx⟩;have HW:=Yw hW;have HX:Hid (Aa W w.heap.size Xs):=xW;have HB:Hid (Zz w W/\W.heap.size=w.heap.size+1):=⟨bW,zW⟩;clear hW xW bW zW;go_enter func51,ntmps51
 go_upto_region 1 with fail;rw[<-HW.o];clear HW;have E:Hid (Zz w W/\W.heap.size=w.heap.size+1/\b<W.heap.size):=⟨HB.o.1,HB.o.2,by have:=HB.o.2;omega⟩
 refine Nv 18 Yr Yr Yr Yr (fun x=>{tmps:= #[Yy b,undef,Yy w.heap.size,x 17,undef,x 0,x 1,x 2,x 3,x 4,x 5,x 6,x 7,x 8,x 9,x 10,x 11,x 12,x 13,x 14,x 15,x 16,undef,undef,undef,undef,undef,undef,undef,undef,undef,undef,undef,undef,undef,undef,undef,undef,undef,undef,undef,undef,undef,undef,undef,undef,undef,undef,undef,undef],defers:=[]}) (fun _=>undef) (Er W b a n c p W.heap.size) (QN b W.heap.size) (fun w B=>w.grownBy B (some b)) (TM E.o.2.2) ?_ zE.o ?_ ?_
 .intro i o x v hi ho;rcases(show i=0\/i=1\/i=2\/i=3\/i=4\/i=5\/i=6\/i=7\/i=8\/i=9\/i=10\/i=11\/i=12\/i=13\/i=14\/i=15\/i=16\/i=17 by omega)with rfl|rfl|rfl|rfl|rfl|rfl|rfl|rfl|rfl|rfl|rfl|rfl|rfl|rfl|rfl|rfl|rfl|rfl<;>(cases ho;rfl)
 .intro i o k x w hi ho hk f y K d;rcases(show i=0\/i=1\/i=2\/i=3\/i=4\/i=5\/i=6\/i=7\/i=8\/i=9\/i=10\/i=11\/i=12\/i=13\/i=14\/i=15\/i=16\/i=17 by omega)with rfl|rfl|rfl|rfl|rfl|rfl|rfl|rfl|rfl|rfl|rfl|rfl|rfl|rfl|rfl|rfl|rfl|rfl<;>cases ho<;>rw[if_pos Yp]
  .dsimp only at d |-;go_simp;exact d.out _ w rfl (AJ _ _) f.ah
  .dsimp only at d |-;have d0:=y {on:=0,ground:=.data} Yu Yp;have zG:x 0=Yy b:=d0;obtain⟨⟨D,z,O,P⟩,_⟩:=id f;rw[zG]at d |-;go_simp;refine(PZ b a n c D w z Yv Yv).mono ?_;rintro e B ⟨s,rfl,hs,⟨p2,A,X,Y⟩,j⟩;exact d.out _ B ⟨s,rfl,hs⟩ j (Er.call f A j Yv Yv)
  .dsimp only at d |-;go_simp;exact d.out _ w rfl (AJ _ _) f.ah
  .dsimp only at d |-;have d2:=y {on:=2,ground:=.data} Yu Yp;have zO:x 2=Yy b:=d2;obtain⟨⟨D,z,O,P⟩,_⟩:=id f;rw[zO]at d |-;go_simp;refine(AR b a n c D 8 w z Yv Yv Yv Yv).mono ?_;rintro e B ⟨r,rfl,r0,R,A,j⟩;exact d.out _ B ⟨r,rfl,r0,R⟩ j (Er.call f A j Yv Yv)
  .dsimp only at d |-;go_simp;exact d.out _ _ ⟨w.heap.size,rfl,f.2.2,Aa.new w [.string ⟨#[112]⟩,.string ⟨#[113]⟩,.string ⟨#[114]⟩] 9⟩ (Ak _ (Zy)) (f.alloc _)
  .dsimp only at d |-;go_simp;exact d.out _ w rfl (AJ _ _) f.ah
  .dsimp only at d |-;have d5:=y {on:=5,ground:=.data} Yu Yp;have zP:x 5=Yy b:=d5;obtain⟨⟨D,z,O,P⟩,_⟩:=id f;rw[zP]at d |-;go_simp;refine(AR b a n c D 3 w z Yv Yv Yv Yv).mono ?_;rintro e B ⟨r,rfl,r0,R,A,j⟩;exact d.out _ B ⟨r.toNat,by congr 1;omega,Yv⟩ j (Er.call f A j Yv Yv)
  .dsimp only at d |-;have d4:=y {on:=4,ground:=.data} Yu Yp;have d6:=y {on:=6,ground:=.data} Yu Yp;obtain⟨g,C,j,m⟩:=d4;obtain⟨r,Q,z⟩:=d6;have zV:r<3:=z;rw[C,Q]at d |-;go_simp;rcases(show r=0\/r=1\/r=2 by omega)with rfl|rfl|rfl
   .exact d.out _ w ⟨g,0,_,rfl,j,(m 0 _ rfl).1,Yq⟩ (AJ _ _) f.ah
   .exact d.out _ w ⟨g,1,_,rfl,j,(m 1 _ rfl).1,Yq⟩ (AJ _ _) f.ah
   .exact d.out _ w ⟨g,2,_,rfl,j,(m 2 _ rfl).1,Yq⟩ (AJ _ _) f.ah
  .dsimp only at d |-;have d7:=y {on:=7,ground:=.data} Yu Yp;obtain⟨g,k',s,C,j,m,hs⟩:=d7;rw[C]at d |-;go_simp;exact d.out _ w ⟨s,rfl,hs⟩ (AJ _ _) f.ah
  .dsimp only at d |-;go_simp;exact d.out _ w rfl (AJ _ _) f.ah
  .dsimp only at d |-;have d9:=y {on:=9,ground:=.data} Yu Yp;have zR:x 9=Yy b:=d9;obtain⟨⟨D,z,O,P⟩,_⟩:=id f;rw[zR]at d |-;go_simp;refine(AR b a n c D 40 w z Yv Yv Yv Yv).mono ?_;rintro e B ⟨r,rfl,r0,R,A,j⟩;exact d.out _ B ⟨r,rfl,r0,R⟩ j (Er.call f A j Yv Yv)
  .dsimp only at d |-;go_simp;exact d.out _ _ ⟨w.heap.size,rfl,f.2.2,Aa.new w [Zg 1,Zg 3,Zg 10,Zg 40,Zg 200] 3⟩ (Ak _ (Zy)) (f.alloc _)
  .dsimp only at d |-;go_simp;exact d.out _ w rfl (AJ _ _) f.ah
  .dsimp only at d |-;have zJ:=y {on:=12,ground:=.data} Yu Yp;have zC:x 12=Yy b:=zJ;obtain⟨⟨D,z,O,P⟩,_⟩:=id f;rw[zC]at d |-;go_simp;refine(AR b a n c D 5 w z Yv Yv Yv Yv).mono ?_;rintro e B ⟨r,rfl,r0,R,A,j⟩;exact d.out _ B ⟨r.toNat,by congr 1;omega,Yv⟩ j (Er.call f A j Yv Yv)
  .dsimp only at d |-;have zI:=y {on:=11,ground:=.data} Yu Yp;have zK:=y {on:=13,ground:=.data} Yu Yp;obtain⟨g,C,j,m⟩:=zI;obtain⟨r,Q,z⟩:=zK;have zV:r<5:=z;rw[C,Q]at d |-;go_simp;rcases(show r=0\/r=1\/r=2\/r=3\/r=4 by omega)with rfl|rfl|rfl|rfl|rfl
   .exact d.out _ w ⟨g,0,_,rfl,j,(m 0 _ rfl).1⟩ (AJ _ _) f.ah
   .exact d.out _ w ⟨g,1,_,rfl,j,(m 1 _ rfl).1⟩ (AJ _ _) f.ah
   .exact d.out _ w ⟨g,2,_,rfl,j,(m 2 _ rfl).1⟩ (AJ _ _) f.ah
   .exact d.out _ w ⟨g,3,_,rfl,j,(m 3 _ rfl).1⟩ (AJ _ _) f.ah
   .exact d.out _ w ⟨g,4,_,rfl,j,(m 4 _ rfl).1⟩ (AJ _ _) f.ah
  .dsimp only at d |-;have zM:=y {on:=14,ground:=.data} Yu Yp;obtain⟨g,k',t,C,j,m⟩:=zM;rw[C]at d |-;go_simp;exact d.out _ w ⟨t,rfl⟩ (AJ _ _) f.ah
  .dsimp only at d |-;have d1:=y {on:=1,ground:=.data} Yu Yp;have d3:=y {on:=3,ground:=.data} Yu Yp;have d8:=y {on:=8,ground:=.data} Yu Yp;have zH:=y {on:=10,ground:=.data} Yu Yp;have zN:=y {on:=15,ground:=.data} Yu Yp;obtain⟨s,C,O⟩:=d1;obtain⟨r,Q,P,X⟩:=d3;obtain⟨q,e3,Y⟩:=d8;obtain⟨l,e4,h5,h6⟩:=zH;obtain⟨u,e5⟩:=zN
   rw[C,Q,e3,e4,e5]at d |-;go_simp;exact d.out _ w ⟨s,r,q,l,u,rfl,O,P,X,Y,h5,h6⟩ (AJ _ _) f.ah
  .dsimp only at d |-;go_simp;exact d.out _ _ ⟨w.heap.size,rfl,f.2.2,Aa.new w Xs 102⟩ (Ak _ (Zy)) (f.alloc _)
 .intro o x w8 ho f hT K d;cases ho;rw[if_pos Yp];obtain⟨g,C,j,m⟩:=hT 17 Yv;obtain⟨s,r,q,l,u,Q,O,P,X,Y,h5,h6⟩:=hT 16 Yv;dsimp only;rw[C,Q];obtain⟨f0,f1,f2,f3,f4,f5⟩:=Zn (m 0 _ rfl) (Zn (m 1 _ rfl) (Zn (m 2 _ rfl) (Zn (m 3 _ rfl) (Zn (m 4 _ rfl) (m 5 _ rfl)))));go_simp;refine d.out _ _ ?_;clear d K
  obtain⟨Z,hZ⟩:=Af ((((((w8.setCell (Zd g 0) Ze).setCell (Zd g 1) (.string s)).setCell (Zd g 2) (Zg r)).setCell (Zd g 3) (.string q)).setCell (Zd g 4) (Zg l)).setCell (Zd g 5) (Zg u));have xZ:Aa Z g [Ze,.string s,Zg r,.string q,Zg l,Zg u]:=by rw[hZ];exact(((((m.set 0 _).set 1 _).set 2 _).set 3 _).set 4 _).set 5 _
  have U:Tn [g] w8 Z:=by rw[hZ];exact(((((AS _ _ _ _).trans (AS _ _ _ _)).trans (AS _ _ _ _)).trans (AS _ _ _ _)).trans (AS _ _ _ _)).trans (AS _ _ _ _)
  rw[<-hZ];clear hZ f0 f1 f2 f3 f4 f5 m C Q hT;obtain⟨⟨D,z,q1,q2⟩,zA,zT⟩:=f;have gZ:w8.grownBy Z (some g):=⟨U.os,U.tape,U.output,U.size,fun i hi V=>U.block i hi (by simpa using V)⟩;have bl:=E.o.2.2;have rZ:=z.grown gZ Yv;have xq:=(HX.o.au zA Yv).au gZ (by have:=E.o.2.1;omega);go_wp2_with fail;refine(AR b a n c D 20 Z rZ Yv Yv Yv Yv).mono ?_
  rintro e w1 ⟨k,rfl,k0,k1,R,g1⟩;have x1:=xZ.au g1 Yv;have y1:=xq.au g1 Yv;have HE:Hid (∀G,Tn [g,w.heap.size] w1 G->GD w G b a n c p 300):=fun G ht=>by
   have zZ:=E.o.2.1;have t1:Tn [b,g,w.heap.size] W G:=(((Tn.grown zA Yu).trans (U.mono Yu)).trans (Tn.grown g1 Yu)).trans (ht.mono Yu);refine⟨⟨D+1,?_,Yv,Yv⟩,?_⟩
   .exact(R.J ht Yt Yt)
   .exact⟨t1.os.trans E.o.1.os,t1.tape.trans E.o.1.tape,t1.output.trans E.o.1.output,Zm E.o.1.size t1.size,fun i hi V=>(t1.block i Yv (by simp at V |-;omega)).trans (E.o.1.block i hi)⟩
  have S:=Yw (Za O (Za P (Za X (Za Y (Za h5 h6)))));obtain⟨a0,a1,a2,a3,a4,a5⟩:=Aa.c6 x1 0 1 2 3 4 5;obtain⟨H,I,J,L,M,N⟩:=Aa.c6 y1 0 1 2 3 4 5;have fa:=x1.fz;have fb:=y1.fz;have V:¬g=w.heap.size:=by have:=E.o.2.1;omega
  clear zA gZ U rZ xq xZ x1 y1 g1 R E HB HX zE z q1 q2 O P X Y h5 h6 zT bl h zS j hp zU
  have F:Hid (∀(kd:Int) G,Tn [g,w.heap.size] w1 G->∃zX tx T zF zB zY,Ending.returned (.agg #[Zg kd,.string s,Zg r,.string q,Zg l,Zg u])=.returned (.agg #[Zg zX,.string tx,Zg T,.string zF,Zg zB,Zg zY])/\tx.size<=16/\0<=T/\T<8/\zF.size<=1/\0<=zB/\zB<40/\GD w G b a n c p 300):=fun kd G ht=>⟨kd,s,r,q,l,u,rfl,S.o.1,S.o.2.1,S.o.2.2.1,S.o.2.2.2.1,S.o.2.2.2.2.1,S.o.2.2.2.2.2,HE.o G ht⟩;clear HE S;go_wp2
  .exact bodyPost_ret (v:=.agg #[Zg 1,.string s,Zg r,.string q,Zg l,Zg u]) (by simp[results,results51,go_sem,H,I,J,L,M,N]) rfl (F.o 1 _ FT)
  .exact bodyPost_ret (v:=.agg #[Zg 2,.string s,Zg r,.string q,Zg l,Zg u]) (by simp[results,results51,go_sem,H,I,J,L,M,N]) rfl (F.o 2 _ FT)
  .exact bodyPost_ret (v:=.agg #[Zg 3,.string s,Zg r,.string q,Zg l,Zg u]) (by simp[results,results51,go_sem,H,I,J,L,M,N]) rfl (F.o 3 _ FT)
  .exact bodyPost_ret (v:=.agg #[Zg 4,.string s,Zg r,.string q,Zg l,Zg u]) (by simp[results,results51,go_sem,H,I,J,L,M,N]) rfl (F.o 4 _ FT)
  .exact bodyPost_ret (v:=.agg #[Zg 5,.string s,Zg r,.string q,Zg l,Zg u]) (by simp[results,results51,go_sem,H,I,J,L,M,N]) rfl (F.o 5 _ FT)
  .exact bodyPost_ret (v:=.agg #[Zg 6,.string s,Zg r,.string q,Zg l,Zg u]) (by simp[results,results51,go_sem,H,I,J,L,M,N]) rfl (F.o 6 _ FT)
  .exact bodyPost_ret (v:=.agg #[Zg 8,.string s,Zg r,.string q,Zg l,Zg u]) (by simp[results,results51,go_sem,H,I,J,L,M,N]) rfl (F.o 8 _ FT)
  .exact bodyPost_ret (v:=.agg #[Zg 9,.string s,Zg r,.string q,Zg l,Zg u]) (by simp[results,results51,go_sem,H,I,J,L,M,N]) rfl (F.o 9 _ FT)
  .exact bodyPost_ret (v:=.agg #[Zg 10,.string s,Zg r,.string q,Zg l,Zg u]) (by simp[results,results51,go_sem,H,I,J,L,M,N]) rfl (F.o 10 _ FT)
theorem QO{a:List Ld}{x:Ld}(n:Int)(c:a[k]?=some x):Cf (a.take (k+1)) n=Cf (a.take k) n++(if x.Y<=n then []else [x]):=by obtain⟨b,rfl⟩:=Zw c;unfold Cf;rw[Zu b,List.filter_append];by_cases h:a[k].Y<=n<;>simp[h]
def Sp(w w':Zh)(e:Ending)(wd now given births:Int)(T P:Value)(ls:List Ld)(ticks:Int):Prop:=
 Below w.heap.size w w'/\((1000000000<now+ticks/\e=.returned (.agg #[Zg 4,Ze,Ze,Ze,Ze,Zb,Zb,Zb,Zc,Ze,Zc,Zc]))\/
  (now+ticks<=1000000000/\∃g c,e=.returned (.agg #[Ze,Zg wd,Zg (now+ticks),Zg given,Zg births,T,P,.slice (some ⟨g,0,none⟩) (Cf ls (now+ticks)).length c,Zc,Ze,Zc,Zc])/\w'.ownsRow w.heap.size 50 3 (.slice (some ⟨g,0,none⟩) (Cf ls (now+ticks)).length c) (Cf ls (now+ticks)).length (Ag lC (Cf ls (now+ticks)))))
theorem QP(t now d b:Int)(o m A:Zk)(s r pn n D:Nat)(f:List Ld)(a:Int)(w:Zh)(l:AN w w.heap.size A f)(hl:f.length<=1000)(zF:0<=now)(zG:now<=1000000000)(zI:0<=a)(zJ:a<=1000000000):
 Calls prog 127 #[.agg (Yg t now d b o s r m pn n A f.length D),Zg a] w fun e w'=>Sp w w' e t now d b (.slice o s r) (.slice m pn n) f a:=by
 obtain⟨W,u⟩:=Af ((w.alloc (.cells (Yg t now d b o s r m pn n A f.length D) 27)).alloc (.cells Yc 115));have C:=(Bf u).1;have zA:=(Bf u).2.1;have E:=(Bf u).2.2.1;have M:Aa W (w.heap.size+1) z12:=by have h1:=Aa.new (w.alloc (.cells (Yg t now d b o s r m pn n A f.length D) 27)) z12 115;rw[World.size_alloc]at h1;rw[u];exact h1
 have zS:=ND zF zG zI zJ;have I:=Yw u;by_cases hbig:1000000000<now+a
 .obtain⟨⟨y0,q0⟩,⟨y1,q1⟩,⟨y2,q2⟩,⟨y3,q3⟩,⟨y4,q4⟩,⟨y5,q5⟩,⟨y6,q6⟩,⟨y7,q7⟩,⟨y8,q8⟩,⟨y9,q9⟩,⟨G,zK⟩,H,zM⟩:=Bw M;obtain⟨c1,_⟩:=E 1 _ rfl;have HB:=Yw C;have j:=Yw hbig;clear u E M l C zA;go_enter func127,ntmps127;go_upto_region 1 with fail;rw[<-I.o];clear I;go_wp2;refine bodyPost_ret (v:=.agg (Yb 4)) (by simp[results,results127,go_sem,y0,y1,y2,y3,y4,y5,y6,y7,y8,y9,G,H]) rfl ?_
  exact⟨HB.o.trans (Tn.below (Bv W (w.heap.size+1) _ _ _ _ _ _ _ _ _ _ _ _) HB.o.size (by intro v hv;simp at hv;omega)),.inl ⟨j.o,rfl⟩⟩
 .obtain⟨X,J⟩:=Af (W.setCell (Zd (w.heap.size) 1) (Zg (now+a)));have L:Tn [w.heap.size] W X:=by rw[J];exact AS _ _ _ _
  have F:w.heap.size+2<=X.heap.size:=by have:=L.size;omega
  have u0:Aa X w.heap.size (Yh t (now+a) d b o s r m pn n A f.length D):=by rw[J];exact E.set 1 _
  have u1:=Aa.same M (L.block _ Yv Yu);have HX:Hid (∀Y,Below (w.heap.size+2) X Y->Aa Y w.heap.size (Yh t (now+a) d b o s r m pn n A f.length D)/\Aa Y (w.heap.size+1) z12):=fun Y hY=>⟨Aa.same u0 (hY.block _ Yv),Aa.same u1 (hY.block _ Yv)⟩;have S:=Yw J;have HR:=Yw l;have zC:=Yw (C.trans (L.below C.size Yu));have j:=Yw (Int.not_lt.1 hbig)
  have bA:Below X.heap.size X (X.alloc (.cells #[] 50)):=Zy;have Q:Hid ((X.alloc (.cells #[] 50)).ownsRow (w.heap.size+2) 50 3 (Yz X.heap.size 0 0) 0 []):=World.ownsRow_lit (base:=w.heap.size+2) (e:=50) (size:=3) X #[] 0 F Yo rfl;have N:Hid (Below (w.heap.size+2) X (X.alloc (.cells #[] 50))):=bA.mono F;obtain⟨c1,f1⟩:=E 1 _ rfl;clear u J zA E M u0 u1 l C bA L
  go_enter func127,ntmps127;go_upto_region 1 with fail;rw[<-I.o];clear I;go_upto_region 4 with fail;rw[<-S.o];clear S c1 f1;go_wp2
  go_loopw [5,6] (fun v i wr=>∃(k g c:Nat),k<=f.length/\i=Zg k/\v=Yz g (Cf (f.take k) (now+a)).length c/\Hid (wr.ownsRow (w.heap.size+2) 50 3 (Yz g (Cf (f.take k) (now+a)).length c) (Cf (f.take k) (now+a)).length (Ag lC (Cf (f.take k) (now+a)))/\Below (w.heap.size+2) X wr)) (fun _ i _=>f.length -(intOf i).toNat)
  case atStart=>exact⟨0,X.heap.size,0,Nat.zero_le _,rfl,by simp[Cf],⟨by simpa [Cf,Ag]using Q.o,N.o⟩⟩
  case round=>
   clear Q N;obtain⟨k,g,c,hk,rfl,rfl,h⟩:=hrel;have z:=zC.o.trans (h.o.2.mono Yv);have zB:=Zm F h.o.2.size;obtain⟨v0,v1,v2,v3,v4,v5,v6,v7⟩:=AP (HX.o _ h.o.2).1;by_cases hlt:k<f.length
   .obtain⟨b',off,ha,hb,T⟩:=(AN.below HR.o z).at hlt;subst ha;have HG:=Yw (Zv hlt);obtain⟨c0,c1,c2⟩:=T k _ HG.o;have R:=Yw (QO (now+a) HG.o);have zP:(Cf (f.take k) (now+a)).length<=1000:=by have:=List.length_filter_le (fun x:Ld=> !decide (x.Y<=(now+a))) (f.take k);unfold Cf;rw[List.length_take]at this;omega
    have zN:b'<wr.heap.size:=by have:=z.size;omega
    have zR:(k:Int)<f.length:=Yv
    clear T;generalize f[k]=x at *
    generalize hGk:Cf (f.take k) (now+a)=gk at *
    have zO:=Yw hGk;clear hGk;by_cases hxn:x.Y<=(now+a)
    .have K:decide ((now+a)<x.Y)=false:=Yt
     have B:Hid (Cf (f.take (k+1)) (now+a)=gk):=by show _=_;rw[R.o,if_pos hxn,List.append_nil]
     clear hxn;have O:Hid (wr.drew.ownsRow (w.heap.size+2) 50 3 (Yz g gk.length c) gk.length (Ag lC gk)/\Below (w.heap.size+2) X wr.drew):=⟨Al h.o.1 (Ad.drew),h.o.2.drew⟩;clear h;go_upto_region 8 with fail;go_region_with fail
     all_goals
      go_wp2;exact⟨⟨k+1,g,c,Yv,Yn,by rw[B.o],⟨by rw[B.o];exact O.o.1,O.o.2⟩⟩,Ys⟩
    .have K:decide ((now+a)<x.Y)=true:=Yt
     have B:Hid (Cf (f.take (k+1)) (now+a)=gk++[x]):=by show _=_;rw[R.o,if_neg hxn]
     clear hxn;obtain⟨g8,y,w8,zH,Z,U,zE⟩:=Qn wr.drew (w.heap.size+2) _ gk (Al h.o.1 (Ad.drew)) x Yv zB 25;have b8:=Ad.grown U zB (fun q e=>(Ac h.o.1 e).1);have H8:Hid (w8.ownsRow (w.heap.size+2) 50 3 (Yz g8 (gk.length+1) y) (gk++[x]).length (Ag lC (gk++[x]))/\Below (w.heap.size+2) X w8):=⟨Z,h.o.2.drew.trans b8⟩;clear Z U zE b8 h;go_upto_region 8 with fail
     go_region_with fail
     all_goals
      go_wp2_with (at_builtin;first|(refine wpList_append_run rfl _ _ 25 25 rfl rfl rfl zH ?_));go_wp2;exact⟨⟨k+1,g8,y,Yv,Yn,by rw[B.o,List.length_append];rfl,⟨by rw[B.o,List.length_append];exact List.length_append▸H8.o.1,H8.o.2⟩⟩,Ys⟩
   .obtain rfl:k=f.length:=Yv
    have hO:=h.o.1;rw[Zt (Zx)]at hO |-;have HO:=Yw hO;have P:=Yw z;obtain⟨⟨y0,q0⟩,⟨y1,q1⟩,⟨y2,q2⟩,⟨y3,q3⟩,⟨y4,q4⟩,⟨y5,q5⟩,⟨y6,q6⟩,⟨y7,q7⟩,⟨y8,q8⟩,⟨y9,q9⟩,⟨G,zK⟩,H,zM⟩:=Bw (HX.o _ h.o.2).2;have f6:=((HX.o _ h.o.2).1 6 _ rfl).2;clear hO z h;go_wp2
    refine bodyPost_ret (v:=.agg #[Ze,Zg t,Zg (now+a),Zg d,Zg b,.slice o s r,.slice m pn n,Yz g (Cf f (now+a)).length c,Zc,Ze,Zc,Zc]) (by simp[results,results127,go_sem,y0,y1,y2,y3,y4,y5,y6,y7,y8,y9,G,H]) rfl ?_
    have T':=(Tn.set (V:=[w.heap.size,w.heap.size+1]) wr w.heap.size 6 (Yz g (Cf f (now+a)).length c) Yu).trans (Tn.mono (Bv (wr.setCell (Zd (w.heap.size) 6) (Yz g (Cf f (now+a)).length c)) (w.heap.size+1) Ze (Zg t) (Zg (now+a)) (Zg d) (Zg b) (.slice o s r) (.slice m pn n) (Yz g (Cf f (now+a)).length c) Zc Ze Zc Zc) Yu)
    exact⟨P.o.trans (T'.below P.o.size (by intro v hv;simp at hv;omega)),.inr ⟨j.o,g,c,rfl,(Aw HO.o (fun q K=>T'.block q (Ac HO.o K).2 (by have:=(Ac HO.o K).1;simp;omega))).mono Yv⟩⟩
def Hl:Kd:=⟨⟨#[]⟩,0,⟨#[]⟩,[]⟩
def YB(ks:List Kd)(at_:Int)(u:Kd)(ra:Zk)(rc:Nat):Prop:=
 (u=Hl/\ra=none/\rc=0/\∀y∈ks,¬y.born<at_)\/(u∈ks/\u.born<at_/\∀y∈ks,y.born<at_->y.born<=u.born)
theorem YB.snoc{ks:List Kd}{b:Int}{u x:Kd}{l:Zk}{rc:Nat}(h:YB ks b u l rc)(n:1<=x.born):(¬x.born<b->YB (ks++[x]) b u l rc)/\(x.born<b->¬u.born<x.born->YB (ks++[x]) b u l rc)/\(x.born<b->u.born<x.born->∀m rd,YB (ks++[x]) b x m rd):=by
 have i:∀{y:Kd},y∈ks++[x]->y∈ks\/y=x:=fun {y} a=>by
  rcases List.mem_append.1 a with a|a
  .exact .inl a
  .exact .inr (by simpa using a)
 refine⟨fun g=> ?_,fun g k=> ?_,fun g k m rd=> ?_⟩
 .rcases h with⟨d,f,e,j⟩|⟨d,f,e⟩
  .refine .inl ⟨d,f,e,fun y a=> ?_⟩;rcases i a with a|rfl
   .exact j y a
   .exact g
  .refine .inr ⟨List.mem_append_left _ d,f,fun y a c=> ?_⟩;rcases i a with a|rfl
   .exact e y a c
   .exact absurd c g
 .rcases h with⟨d,_⟩|⟨d,f,e⟩
  .exfalso;rw[d]at k;exact k (by show(0:Int)<_;omega)
  .refine .inr ⟨List.mem_append_left _ d,f,fun y a c=> ?_⟩;rcases i a with a|rfl
   .exact e y a c
   .omega
 .refine .inr ⟨List.mem_append_right _ Yu,g,fun y a c=> ?_⟩;rcases i a with a|rfl
  .rcases h with⟨_,_,_,j⟩|⟨_,_,e⟩
   .exact absurd c (j y a)
   .have:=e y a c;omega
  .omega
def PC:Zj:=[Zc,Ze,Zc,Zb]
theorem NV(Y d m:Nat)(O P L:Value)(wd now J s l:Int)(b:List Kd)(ps:List Pd)(ls:List Ld)(w:Zh)(N:Dr w Y d m O P L wd now J s b ps ls)(zW:(b.map (·.sum)).Nodup)(zX:∀k∈b,(k.sum.size:Int)=wd)(hk:b.length<=600)(zJ:∀k∈b,1<=k.born):
 Calls prog 65 #[Yy d,Zg l] w fun e w'=>∃u g h,e=.returned (.tuple #[CN u g h,.bool (decide (0<u.born))])/\YB b l u g h/\Zz w w':=by
 obtain⟨oa,yG,rfl⟩:=As N.ord;have HD:=Yw N;have yC:=N.box.lt;obtain⟨W,H⟩:=Af ((w.alloc (.cells #[Zc,Ze,Zc,Zb] 65)).alloc (.cells #[Zc,Ze,Zc,Zb] 65));have hB:Below w.heap.size w W:=by rw[H];exact(Zy).alloc Yu _
 have zE:W.heap.size=w.heap.size+2:=by rw[H];simp
 have zR:Aa W w.heap.size PC:=by rw[H];exact Aa.below (v:=Zc) (Aa.new w PC 65) (Zy)
 have zY:Aa W (w.heap.size+1) [.string Hl.sum,Zg Hl.born,.string Hl.F,.slice none Hl.B.length 0]:=by have h1:=Aa.new (w.alloc (.cells #[Zc,Ze,Zc,Zb] 65)) PC 65;rw[World.size_alloc]at h1;rw[H];exact h1
 obtain⟨e5,_⟩:=Aa.below N.box hB 5 _ rfl;have HW:=Yw H;have H0:=Yw (Zn zR zY);have zI:=Yw zE;clear H N zR zY zE;go_enter func65,ntmps65;go_upto_region 2 with fail;rw[<-HW.o];clear HW;go_wp2
 go_loopw [15] (fun i wr=>∃(k:Nat) (u:Kd) (g:Zk) (h:Nat),k<=b.length/\i=Zg k/\Hid (Aa wr (w.heap.size+1) [.string u.sum,Zg u.born,.string u.F,.slice g u.B.length h]/\Aa wr w.heap.size PC/\YB (b.take k) l u g h/\Zz w wr/\w.heap.size+2<=wr.heap.size)) (fun i _=>b.length -(intOf i).toNat)
 case atStart=>exact⟨0,Hl,none,0,Nat.zero_le _,rfl,⟨H0.o.2,H0.o.1,.inl ⟨rfl,rfl,rfl,(fun y hy=>by simp at hy)⟩,hB,by have:=zI.o;omega⟩⟩
 case round=>
  clear H0;obtain⟨k,u,g,h,yD,rfl,f⟩:=hrel;have n:=f.o.2.2.2.1;have yF:=f.o.2.2.2.2;by_cases hlt:k<b.length
  .have G:=Dr.below HD.o n;have r:=G.ord;obtain⟨og,oc,zV,_,yE⟩:=Bq r (fun e=>by injection e with _ h2 _;omega);cases zV;have HG:Hid (b[k]?=some b[k]):=Zv hlt;have q:b[k]∈b:=List.getElem_mem hlt;have zC:(b.map (·.sum))[k]?=some b[k].sum:=by simp[hlt]
   obtain⟨B,C,_,T⟩:=G.look zW zX q;have zZ:=zJ _ q;have a:∀j,j<8->wr.cell? (Zd og (k *8+j))=some (.int .u8 (kB b[k].sum j)):=fun j hj=>(r.cellAt _ Yv).trans (EO zC hj);have zB:=a 0 Yv;have zM:=a 1 Yv;have zN:=a 2 Yv;have zO:=a 3 Yv;have zP:=a 4 Yv;have zS:=a 5 Yv;have zT:=a 6 Yv;have zU:=a 7 Yv;rw[Nat.add_zero]at zB
   have dr:Aa wr d _:=G.box;have HT:Hid (b.take (k+1)=b.take k++[b[k]]):=Zu hlt;have HS:=Yw (YB.snoc (x:=b[k]) f.o.2.2.1 zZ);unfold BX Cu CN at T;clear a zC r q G;generalize b[k]=x at *
   obtain⟨c,z⟩:=Af (wr.alloc (.cells (Yk (kB x.sum)) 94));have F:Below wr.heap.size wr c:=by rw[z];exact Zy
   have V:c.heap.size=wr.heap.size+1:=by rw[z];simp
   have K1:Aa c wr.heap.size (Bj x.sum):=by rw[z];exact Aa.new wr (Bj x.sum) 94
   have Q:Hid (∀X,Zz c X->X.cell? (Zd d 1)=some (.map (some m))/\(X.cell? (Zd (wr.heap.size) 0)=some (.int .u8 (kB x.sum 0))/\X.cell? (Zd (wr.heap.size) 1)=some (.int .u8 (kB x.sum 1))/\X.cell? (Zd (wr.heap.size) 2)=some (.int .u8 (kB x.sum 2))/\X.cell? (Zd (wr.heap.size) 3)=some (.int .u8 (kB x.sum 3))/\X.cell? (Zd (wr.heap.size) 4)=some (.int .u8 (kB x.sum 4))/\X.cell? (Zd (wr.heap.size) 5)=some (.int .u8 (kB x.sum 5))/\X.cell? (Zd (wr.heap.size) 6)=some (.int .u8 (kB x.sum 6))/\X.cell? (Zd (wr.heap.size) 7)=some (.int .u8 (kB x.sum 7)))/\(Instr.lookup 84 (.map (some m)) (.agg (Yk (kB x.sum))) false).run prog X=.ok (.agg #[.string x.sum,Zg x.born,.string x.F,.slice B x.B.length C]) X):=
    fun X hX=>⟨((dr.below (F.trans (hX.mono F.size))) 1 _ rfl).1,VJ (hX.block _ Yv) K1,T X (F.trans (hX.mono F.size))⟩
   have D0:Below c.heap.size c c.drew:=Ad.drew;have D1:∀o,Zz c (c.alloc o).drew:=fun o=>(Zy).drew;have zA:=Yw z;have zH:=Yw V;have zF:=Yw F;clear z V T K1 F dr;go_upto_region 5 with fail;rw[<-zA.o];clear zA zB zM zN zO zP zS zT zU
   go_region_held3 (fun X=>X.cell? (Zd d 1)=some (.map (some m))/\(X.cell? (Zd (wr.heap.size) 0)=some (.int .u8 (kB x.sum 0))/\X.cell? (Zd (wr.heap.size) 1)=some (.int .u8 (kB x.sum 1))/\X.cell? (Zd (wr.heap.size) 2)=some (.int .u8 (kB x.sum 2))/\X.cell? (Zd (wr.heap.size) 3)=some (.int .u8 (kB x.sum 3))/\X.cell? (Zd (wr.heap.size) 4)=some (.int .u8 (kB x.sum 4))/\X.cell? (Zd (wr.heap.size) 5)=some (.int .u8 (kB x.sum 5))/\X.cell? (Zd (wr.heap.size) 6)=some (.int .u8 (kB x.sum 6))/\X.cell? (Zd (wr.heap.size) 7)=some (.int .u8 (kB x.sum 7)))/\(Instr.lookup 84 (.map (some m)) (.agg (Yk (kB x.sum))) false).run prog X=.ok (.agg #[.string x.sum,Zg x.born,.string x.F,.slice B x.B.length C]) X)
    (first|with_reducible exact Q.o _ D0|with_reducible exact Q.o _ (D1 _))
    (fail)
   all_goals
    clear Q D0 D1;obtain⟨A,I⟩:=Af ((c.alloc (.cells #[.string x.sum,Zg x.born,.string x.F,.slice B x.B.length C] 65)).drew);have b2:Below c.heap.size c A:=by rw[I];exact(Zy).drew
    have M:Aa A c.heap.size [.string x.sum,Zg x.born,.string x.F,.slice B x.B.length C]:=by rw[I];exact Aa.new c _ _
    have V:=zH.o;have t:Below wr.heap.size wr A:=zF.o.trans (b2.mono Yv);have Z:=t.size;have E:=Aa.below f.o.1 t;have R2:=Aa.below (v:=Zc) f.o.2.1 t;obtain⟨y0,f0⟩:=E 0 _ rfl;obtain⟨y1,f1⟩:=E 1 _ rfl;obtain⟨y2,f2⟩:=E 2 _ rfl;obtain⟨y3,f3⟩:=E 3 _ rfl;obtain⟨k0,_⟩:=M 0 _ rfl;obtain⟨k1,_⟩:=M 1 _ rfl;obtain⟨k2,_⟩:=M 2 _ rfl;obtain⟨k3,_⟩:=M 3 _ rfl;have yA:¬w.heap.size+1=c.heap.size:=Yv
    have yB:¬c.heap.size=w.heap.size+1:=Yv
    have R:Below w.heap.size w A:=n.trans (t.mono Yv);have U:w.heap.size+2<=A.heap.size:=Yv
    have D:=Yw (Zn E R2);rw[<-I];clear I b2 M V t E R2 Z;by_cases hx:x.born<l
    .have d1:decide (x.born<l)=true:=by simpa using hx
     by_cases hu:u.born<x.born
     .have d2:decide (u.born<x.born)=true:=by simpa using hu
      have K:Hid (YB (b.take k++[x]) l x B C):=HS.o.2.2 hx hu B C;clear HS hx hu;go_wp2;refine⟨⟨k+1,x,B,C,Yv,Yn,⟨?_,?_,by rw[HT.o];exact K.o,?_,by simpa using U⟩⟩,Ys⟩
      .exact((((D.o.1.set 0 _).set 1 _).set 2 _).set 3 _)
      .exact Aa.same D.o.2 (by rw[Below.heap_setCell _ _ _ _ Yu,Below.heap_setCell _ _ _ _ Yu,Below.heap_setCell _ _ _ _ Yu,Below.heap_setCell _ _ _ _ Yu])
      .exact(((R.setCell Yu _).setCell Yu _).setCell Yu _).setCell Yu _
     .have d2:decide (u.born<x.born)=false:=by simpa using hu
      have K:Hid (YB (b.take k++[x]) l u g h):=HS.o.2.1 hx hu;clear HS hx hu;go_wp2;exact⟨⟨k+1,u,g,h,Yv,Yn,⟨D.o.1,D.o.2,by rw[HT.o];exact K.o,R,U⟩⟩,Ys⟩
    .have d1:decide (x.born<l)=false:=by simpa using hx
     have K:Hid (YB (b.take k++[x]) l u g h):=HS.o.1 hx;clear HS hx;go_wp2;exact⟨⟨k+1,u,g,h,Yv,Yn,⟨D.o.1,D.o.2,by rw[HT.o];exact K.o,R,U⟩⟩,Ys⟩
  .obtain rfl:k=b.length:=Yv
   have S:=f.o.2.2.1;rw[Zt (Zx)]at S;have zG:Hid (YB b l u g h):=S;obtain⟨y0,_⟩:=f.o.1 0 _ rfl;obtain⟨y1,_⟩:=f.o.1 1 _ rfl;obtain⟨y2,_⟩:=f.o.1 2 _ rfl;obtain⟨y3,_⟩:=f.o.1 3 _ rfl;have r0:wr.cell? (Zd (w.heap.size) 0)=some Zc:=(f.o.2.1 0 _ rfl).1;have r1:wr.cell? (Zd (w.heap.size) 1)=some Ze:=(f.o.2.1 1 _ rfl).1;have r2:wr.cell? (Zd (w.heap.size) 2)=some Zc:=(f.o.2.1 2 _ rfl).1
   have r3:wr.cell? (Zd (w.heap.size) 3)=some Zb:=(f.o.2.1 3 _ rfl).1;have g0:=(f.o.2.1 0 _ rfl).2;have g1:=(f.o.2.1 1 _ rfl).2;have g2:=(f.o.2.1 2 _ rfl).2;have g3:=(f.o.2.1 3 _ rfl).2
   have S0:wr.drew.cell? (Zd (w.heap.size+1) 0)=some (.string u.sum)/\wr.drew.cell? (Zd (w.heap.size+1) 1)=some (Zg u.born)/\wr.drew.cell? (Zd (w.heap.size+1) 2)=some (.string u.F)/\wr.drew.cell? (Zd (w.heap.size+1) 3)=some (.slice g u.B.length h):=⟨y0,y1,y2,y3⟩
   have zK:∀a0 a1 a2 a3,Zz w ((((wr.setCell (Zd (w.heap.size) 0) a0).setCell (Zd (w.heap.size) 1) a1).setCell (Zd (w.heap.size) 2) a2).setCell (Zd (w.heap.size) 3) a3):=fun a0 a1 a2 a3=>(((n.setCell Yu _).setCell Yu _).setCell Yu _).setCell Yu _;clear S;go_wp2
   go_region_held3 (fun X=>X.cell? (Zd (w.heap.size+1) 0)=some (.string u.sum)/\X.cell? (Zd (w.heap.size+1) 1)=some (Zg u.born)/\X.cell? (Zd (w.heap.size+1) 2)=some (.string u.F)/\X.cell? (Zd (w.heap.size+1) 3)=some (.slice g u.B.length h))
    (first|with_reducible exact S0|(simp[go_sem];exact S0)|go_keep)
    (fail)
   all_goals
    go_wp2;refine bodyPost_ret (v:=.tuple #[CN u g h,.bool (decide (0<u.born))]) (by simp[results,results65,go_sem,CN,r0,r1,r2,r3]) rfl ⟨u,g,h,rfl,zG.o,(zK _ _ _ _).drew⟩
end Go.Proofs.YtcfjcdpkpiidkaaGreat
