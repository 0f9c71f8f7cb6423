import Derived.Test.YtoglnpagihdhpaaGreatDoorX08
import Derived.Test.YtoglnpagihdhpaaGreatDoorX12
set_option maxRecDepth 100000
set_option maxHeartbeats 16000000
namespace Go.Proofs.YtoglnpagihdhpaaGreatDoor
open ChangeShapes WideShapes ChangeAt RowKit _root_.Go.Proofs.Tryz
variable{b e n c g k:Nat}{i w:Zh}{a:Zk}{p:Int}
def Sn(b n0:Nat):Nat->Zh->Value->Prop
 |0,_,v|2,_,v|5,_,v|9,_,v|12,_,v=>v=.pointer (some ⟨b,0,none⟩)
 |1,_,v=>∃s,v=.string s/\s.size<=16
 |3,_,v=>∃r:Int,v=Zg r/\0<=r/\r<8
 |4,w,v=>∃g,v=.slice (some ⟨g,0,none⟩) 3 3/\n0<=g/\Aa w g [.string ⟨#[112]⟩,.string ⟨#[113]⟩,.string ⟨#[114]⟩]
 |6,_,v=>∃r:Nat,v=Zg r/\r<3
 |7,w,v=>∃g k s,v=.pointer (some ⟨g,k,none⟩)/\n0<=g/\w.cell? (Zd g k)=some (.string s)/\s.size<=1
 |8,_,v=>∃s,v=.string s/\s.size<=1
 |10,_,v=>∃r:Int,v=Zg r/\0<=r/\r<40
 |11,w,v=>∃g,v=.slice (some ⟨g,0,none⟩) 5 5/\n0<=g/\Aa w g [Zg 1,Zg 3,Zg 10,Zg 40,Zg 200]
 |13,_,v=>∃r:Nat,v=Zg r/\r<5
 |14,w,v=>∃g k t,v=.pointer (some ⟨g,k,none⟩)/\n0<=g/\w.cell? (Zd g k)=some (Zg t)
 |15,_,v=>∃t,v=Zg t
 |16,_,v=>∃s r nm pk tk,v=.agg #[Ze,.string s,Zg r,.string nm,Zg pk,Zg tk]/\s.size<=16/\0<=r/\r<8/\nm.size<=1/\0<=pk/\pk<40
 |17,w,v=>∃g,v=.pointer (some ⟨g,0,none⟩)/\n0<=g/\Aa w g [Ze,Zc,Ze,Zc,Ze,Ze]
 |_,_,_=>True
theorem VD(n:b<e):∀i w j v,w.grownBy j (some b)->Sn b e i w v->Sn b e i j v:=by
 intro i w j v f h;have l:∀g,e<=g->some g≠some b:=fun g c a=>by cases a;omega
 unfold Sn at h |-;split at h<;>first
  |exact h
  |(obtain⟨g,c,a,d⟩:=h;exact⟨g,c,a,d.bu f Yv⟩)
  |(obtain⟨g,k,s,c,a,d,m⟩:=h;exact⟨g,k,s,c,a,f.cell d (l g a),m⟩)
  |(obtain⟨g,k,s,c,a,d⟩:=h;exact⟨g,k,s,c,a,f.cell d (l g a)⟩)
def Fa(w0:Zh)(b:Nat)(a:Zk)(n c:Nat)(p:Int)(n0 k:Nat)(w:Zh):Prop:=
 (∃p',AT w b a n c p'/\p<=p'/\p'<=p+10 *k)/\w0.grownBy w (some b)/\n0<=w.heap.size
theorem Fa.call{e:Zh}{d:Int}(h:Fa i b a n c p g k w)(l:AT e b a n c d)(f:w.grownBy e (some b))(j:p<=d)(m:d<=p+10 *(k+1)):Fa i b a n c p g (k+1) e:=
 ⟨⟨d,l,j,Yv⟩,Ar h.2.1 f,Zm h.2.2 f.size⟩
theorem Fa.alloc{f:Zh}(h:Fa f b a n c p e k w)(o:Obj):Fa f b a n c p e (k+1) (w.alloc o):=by have d:Below w.heap.size w (w.alloc o):=Zy;obtain⟨⟨l,j,g,m⟩,i,q⟩:=h;exact⟨⟨l,j.below d,g,Yv⟩,Ar i (Al _ d),Yt⟩
theorem Fa.ag{e:Zh}{d:Nat}(h:Fa e b a n c p d k w):Fa e b a n c p d (k+1) w:=by obtain⟨⟨i,g,f,j⟩,h⟩:=h;exact⟨⟨i,g,f,Yv⟩,h⟩
theorem Aa.fz{B:Nat}{l:Zj}(h:Aa w B l):∀j,j<l.length->w.frozen? ⟨B,j,none⟩=false:=fun j a=>(h j _ (Zv a)).2
theorem GO{q:Nat}{v a b c d e f:Value}:Tn [g,q] w (((((((w.setCell (Zd g 0) v).setCell (Zd q 0) a).setCell (Zd q 1) b).setCell (Zd q 2) c).setCell (Zd q 3) d).setCell (Zd q 4) e).setCell (Zd q 5) f):=
 have s:∀X j u,Tn [g,q] X (X.setCell (Zd q j) u):=fun X j u=>Tn.set X q j u Yu
 ((((((Tn.set w g 0 v Yu).trans (s _ _ _)).trans (s _ _ _)).trans (s _ _ _)).trans (s _ _ _)).trans (s _ _ _)).trans (s _ _ _)
theorem AT.K(h:AT w b a n c p){V:List Nat}(f:Tn V w i)(v:∀g∈V,b<g)(l:b∉V):AT i b a n c p:=by
 have k:=h.lt;have e:∀q j,q<=b->i.cell? (Zd q j)=w.cell? (Zd q j):=fun q j A=>World.cell?_of_block (f.block q Yv (fun m=>by have:=v q m;omega));refine⟨(e b 0 (Zx)).trans h.c0,(e b 1 (Zx)).trans h.c1,?_,Zr k f.size,h.n2,?_⟩
 .exact(World.frozen?_of_block (f.block b k l)).trans h.f1
 .rcases h.bytes with h|⟨q,d,u,o,z⟩
  .exact .inl h
  .refine .inr ⟨q,d,u,o,fun j y=> ?_⟩;obtain⟨x,r,s,t⟩:=z j y;exact⟨x,(e q (d+j) Yv).trans r,s,t⟩
theorem XR(b:Nat)(a:Zk)(n c:Nat)(p:Int)(w:Zh)(h:AT w b a n c p)(hp:0<=p)(zU:p<=800000):
 Calls prog 38 #[Yy b] w fun e B=>∃kd tx T q l u,e=.returned (.agg #[Zg kd,.string tx,Zg T,.string q,Zg l,Zg u])/\tx.size<=16/\0<=T/\T<8/\q.size<=1/\0<=l/\l<40/\Hu w B b a n c p 300:=by
 have zS:=h.lt;obtain⟨W,hW⟩:=Af (w.alloc (.cells Xt 99));obtain⟨bW,zW,xW⟩:=AB hW;have zE:Hid (Fa W b a n c p W.heap.size 0 W.drew):=⟨⟨p,(h.below bW).drew,Int.le_refl _,Yv⟩,⟨rfl,rfl,rfl,Zx,fun _ _ _=>rfl⟩,Zx⟩;have HW:=Yw hW;have HX:Hid (Aa W w.heap.size Xs):=xW;have HB:Hid (Zz w W/\W.heap.size=w.heap.size+1):=⟨bW,zW⟩;clear hW xW bW zW;go_enter func38,ntmps38;go_upto_region 1 with fail
 rw[<-HW.o];clear HW;have E:Hid (Zz w W/\W.heap.size=w.heap.size+1/\b<W.heap.size):=⟨HB.o.1,HB.o.2,by have:=HB.o.2;omega⟩
 refine OZ 18 Yr Yr Yr Yr (fun x=>{tmps:= #[Yy b,undef,Yy w.heap.size,x 17,undef,x 0,x 1,x 2,x 3,x 4,x 5,x 6,x 7,x 8,x 9,x 10,x 11,x 12,x 13,x 14,x 15,x 16,undef,undef,undef,undef,undef,undef,undef,undef,undef,undef,undef,undef,undef,undef,undef,undef,undef,undef,undef,undef,undef,undef,undef,undef,undef,undef,undef,undef],defers:=[]}) (fun _=>undef) (Fa W b a n c p W.heap.size) (Sn b W.heap.size) (fun w B=>w.grownBy B (some b)) (VD E.o.2.2) ?_ zE.o ?_ ?_
 .intro i o x v hi ho;rcases(show i=0\/i=1\/i=2\/i=3\/i=4\/i=5\/i=6\/i=7\/i=8\/i=9\/i=10\/i=11\/i=12\/i=13\/i=14\/i=15\/i=16\/i=17 by omega)with rfl|rfl|rfl|rfl|rfl|rfl|rfl|rfl|rfl|rfl|rfl|rfl|rfl|rfl|rfl|rfl|rfl|rfl<;>(cases ho;rfl)
 .intro i o k x w hi ho hk f y K d;rcases(show i=0\/i=1\/i=2\/i=3\/i=4\/i=5\/i=6\/i=7\/i=8\/i=9\/i=10\/i=11\/i=12\/i=13\/i=14\/i=15\/i=16\/i=17 by omega)with rfl|rfl|rfl|rfl|rfl|rfl|rfl|rfl|rfl|rfl|rfl|rfl|rfl|rfl|rfl|rfl|rfl|rfl<;>cases ho<;>rw[if_pos Yp]
  .dsimp only at d |-;go_simp;exact d.out _ w rfl (Bf _ _) f.ag
  .dsimp only at d |-;have d0:=y {on:=0,ground:=.data} Yu Yp;have zG:x 0=Yy b:=d0;obtain⟨⟨D,z,O,P⟩,_⟩:=id f;rw[zG]at d |-;go_simp;refine(Rw b a n c D w z Yv Yv).mono ?_;rintro e B ⟨s,rfl,hs,⟨p2,A,X,Y⟩,j⟩;exact d.out _ B ⟨s,rfl,hs⟩ j (Fa.call f A j Yv Yv)
  .dsimp only at d |-;go_simp;exact d.out _ w rfl (Bf _ _) f.ag
  .dsimp only at d |-;have d2:=y {on:=2,ground:=.data} Yu Yp;have zO:x 2=Yy b:=d2;obtain⟨⟨D,z,O,P⟩,_⟩:=id f;rw[zO]at d |-;go_simp;refine(Bq b a n c D 8 w z Yv Yv Yv Yv).mono ?_;rintro e B ⟨r,rfl,r0,R,A,j⟩;exact d.out _ B ⟨r,rfl,r0,R⟩ j (Fa.call f A j Yv Yv)
  .dsimp only at d |-;go_simp;exact d.out _ _ ⟨w.heap.size,rfl,f.2.2,Aa.new w [.string ⟨#[112]⟩,.string ⟨#[113]⟩,.string ⟨#[114]⟩] 9⟩ (Al _ (Zy)) (f.alloc _)
  .dsimp only at d |-;go_simp;exact d.out _ w rfl (Bf _ _) f.ag
  .dsimp only at d |-;have d5:=y {on:=5,ground:=.data} Yu Yp;have zP:x 5=Yy b:=d5;obtain⟨⟨D,z,O,P⟩,_⟩:=id f;rw[zP]at d |-;go_simp;refine(Bq b a n c D 3 w z Yv Yv Yv Yv).mono ?_;rintro e B ⟨r,rfl,r0,R,A,j⟩;exact d.out _ B ⟨r.toNat,by congr 1;omega,Yv⟩ j (Fa.call f A j Yv Yv)
  .dsimp only at d |-;have d4:=y {on:=4,ground:=.data} Yu Yp;have d6:=y {on:=6,ground:=.data} Yu Yp;obtain⟨g,C,j,m⟩:=d4;obtain⟨r,Q,z⟩:=d6;have zV:r<3:=z;rw[C,Q]at d |-;go_simp;rcases(show r=0\/r=1\/r=2 by omega)with rfl|rfl|rfl
   .exact d.out _ w ⟨g,0,_,rfl,j,(m 0 _ rfl).1,Yq⟩ (Bf _ _) f.ag
   .exact d.out _ w ⟨g,1,_,rfl,j,(m 1 _ rfl).1,Yq⟩ (Bf _ _) f.ag
   .exact d.out _ w ⟨g,2,_,rfl,j,(m 2 _ rfl).1,Yq⟩ (Bf _ _) f.ag
  .dsimp only at d |-;have d7:=y {on:=7,ground:=.data} Yu Yp;obtain⟨g,k',s,C,j,m,hs⟩:=d7;rw[C]at d |-;go_simp;exact d.out _ w ⟨s,rfl,hs⟩ (Bf _ _) f.ag
  .dsimp only at d |-;go_simp;exact d.out _ w rfl (Bf _ _) f.ag
  .dsimp only at d |-;have d9:=y {on:=9,ground:=.data} Yu Yp;have zR:x 9=Yy b:=d9;obtain⟨⟨D,z,O,P⟩,_⟩:=id f;rw[zR]at d |-;go_simp;refine(Bq b a n c D 40 w z Yv Yv Yv Yv).mono ?_;rintro e B ⟨r,rfl,r0,R,A,j⟩;exact d.out _ B ⟨r,rfl,r0,R⟩ j (Fa.call f A j Yv Yv)
  .dsimp only at d |-;go_simp;exact d.out _ _ ⟨w.heap.size,rfl,f.2.2,Aa.new w [Zg 1,Zg 3,Zg 10,Zg 40,Zg 200] 3⟩ (Al _ (Zy)) (f.alloc _)
  .dsimp only at d |-;go_simp;exact d.out _ w rfl (Bf _ _) f.ag
  .dsimp only at d |-;have zJ:=y {on:=12,ground:=.data} Yu Yp;have zC:x 12=Yy b:=zJ;obtain⟨⟨D,z,O,P⟩,_⟩:=id f;rw[zC]at d |-;go_simp;refine(Bq b a n c D 5 w z Yv Yv Yv Yv).mono ?_;rintro e B ⟨r,rfl,r0,R,A,j⟩;exact d.out _ B ⟨r.toNat,by congr 1;omega,Yv⟩ j (Fa.call f A j Yv Yv)
  .dsimp only at d |-;have zI:=y {on:=11,ground:=.data} Yu Yp;have zK:=y {on:=13,ground:=.data} Yu Yp;obtain⟨g,C,j,m⟩:=zI;obtain⟨r,Q,z⟩:=zK;have zV:r<5:=z;rw[C,Q]at d |-;go_simp;rcases(show r=0\/r=1\/r=2\/r=3\/r=4 by omega)with rfl|rfl|rfl|rfl|rfl
   .exact d.out _ w ⟨g,0,_,rfl,j,(m 0 _ rfl).1⟩ (Bf _ _) f.ag
   .exact d.out _ w ⟨g,1,_,rfl,j,(m 1 _ rfl).1⟩ (Bf _ _) f.ag
   .exact d.out _ w ⟨g,2,_,rfl,j,(m 2 _ rfl).1⟩ (Bf _ _) f.ag
   .exact d.out _ w ⟨g,3,_,rfl,j,(m 3 _ rfl).1⟩ (Bf _ _) f.ag
   .exact d.out _ w ⟨g,4,_,rfl,j,(m 4 _ rfl).1⟩ (Bf _ _) f.ag
  .dsimp only at d |-;have zM:=y {on:=14,ground:=.data} Yu Yp;obtain⟨g,k',t,C,j,m⟩:=zM;rw[C]at d |-;go_simp;exact d.out _ w ⟨t,rfl⟩ (Bf _ _) f.ag
  .dsimp only at d |-;have d1:=y {on:=1,ground:=.data} Yu Yp;have d3:=y {on:=3,ground:=.data} Yu Yp;have d8:=y {on:=8,ground:=.data} Yu Yp;have zH:=y {on:=10,ground:=.data} Yu Yp;have zN:=y {on:=15,ground:=.data} Yu Yp;obtain⟨s,C,O⟩:=d1;obtain⟨r,Q,P,X⟩:=d3;obtain⟨q,e3,Y⟩:=d8;obtain⟨l,e4,h5,h6⟩:=zH;obtain⟨u,e5⟩:=zN
   rw[C,Q,e3,e4,e5]at d |-;go_simp;exact d.out _ w ⟨s,r,q,l,u,rfl,O,P,X,Y,h5,h6⟩ (Bf _ _) f.ag
  .dsimp only at d |-;go_simp;exact d.out _ _ ⟨w.heap.size,rfl,f.2.2,Aa.new w Xs 99⟩ (Al _ (Zy)) (f.alloc _)
 .intro o x w8 ho f hT K d;cases ho;rw[if_pos Yp];obtain⟨g,C,j,m⟩:=hT 17 Yv;obtain⟨s,r,q,l,u,Q,O,P,X,Y,h5,h6⟩:=hT 16 Yv;dsimp only;rw[C,Q];obtain⟨f0,f1,f2,f3,f4,f5⟩:=Zn (m 0 _ rfl) (Zn (m 1 _ rfl) (Zn (m 2 _ rfl) (Zn (m 3 _ rfl) (Zn (m 4 _ rfl) (m 5 _ rfl)))));go_simp;refine d.out _ _ ?_;clear d K
  obtain⟨Z,hZ⟩:=Af ((((((w8.setCell (Zd g 0) Ze).setCell (Zd g 1) (.string s)).setCell (Zd g 2) (Zg r)).setCell (Zd g 3) (.string q)).setCell (Zd g 4) (Zg l)).setCell (Zd g 5) (Zg u));have xZ:Aa Z g [Ze,.string s,Zg r,.string q,Zg l,Zg u]:=by rw[hZ];exact(((((m.set 0 _).set 1 _).set 2 _).set 3 _).set 4 _).set 5 _
  have U:Tn [g] w8 Z:=by rw[hZ];exact(((((Bl _ _ _ _).trans (Bl _ _ _ _)).trans (Bl _ _ _ _)).trans (Bl _ _ _ _)).trans (Bl _ _ _ _)).trans (Bl _ _ _ _)
  rw[<-hZ];clear hZ f0 f1 f2 f3 f4 f5 m C Q hT;obtain⟨⟨D,z,q1,q2⟩,zA,zT⟩:=f;have gZ:w8.grownBy Z (some g):=⟨U.os,U.tape,U.output,U.size,fun i hi V=>U.block i hi (by simpa using V)⟩;have bl:=E.o.2.2;have rZ:=z.grown gZ Yv;have xq:=(HX.o.bu zA Yv).bu gZ (by have:=E.o.2.1;omega);go_wp2_with fail;refine(Bq b a n c D 20 Z rZ Yv Yv Yv Yv).mono ?_
  rintro e w1 ⟨k,rfl,k0,k1,R,g1⟩;have x1:=xZ.bu g1 Yv;have y1:=xq.bu g1 Yv;have HE:Hid (∀G,Tn [g,w.heap.size] w1 G->Hu w G b a n c p 300):=fun G ht=>by
   have zZ:=E.o.2.1;have t1:Tn [b,g,w.heap.size] W G:=(((Tn.grown zA Yu).trans (U.mono Yu)).trans (Tn.grown g1 Yu)).trans (ht.mono Yu);refine⟨⟨D+1,?_,Yv,Yv⟩,?_⟩
   .exact(R.K ht Yt Yt)
   .exact⟨t1.os.trans E.o.1.os,t1.tape.trans E.o.1.tape,t1.output.trans E.o.1.output,Zm E.o.1.size t1.size,fun i hi V=>(t1.block i Yv (by simp at V |-;omega)).trans (E.o.1.block i hi)⟩
  have S:=Yw (Za O (Za P (Za X (Za Y (Za h5 h6)))));obtain⟨a0,a1,a2,a3,a4,a5⟩:=Aa.c6 x1 0 1 2 3 4 5;obtain⟨H,I,J,L,M,N⟩:=Aa.c6 y1 0 1 2 3 4 5;have fa:=x1.fz;have fb:=y1.fz;have V:¬g=w.heap.size:=by have:=E.o.2.1;omega
  clear zA gZ U rZ xq xZ x1 y1 g1 R E HB HX zE z q1 q2 O P X Y h5 h6 zT bl h zS j hp zU
  have F:Hid (∀(kd:Int) G,Tn [g,w.heap.size] w1 G->∃zX tx T zF zB zY,Ending.returned (.agg #[Zg kd,.string s,Zg r,.string q,Zg l,Zg u])=.returned (.agg #[Zg zX,.string tx,Zg T,.string zF,Zg zB,Zg zY])/\tx.size<=16/\0<=T/\T<8/\zF.size<=1/\0<=zB/\zB<40/\Hu w G b a n c p 300):=fun kd G ht=>⟨kd,s,r,q,l,u,rfl,S.o.1,S.o.2.1,S.o.2.2.1,S.o.2.2.2.1,S.o.2.2.2.2.1,S.o.2.2.2.2.2,HE.o G ht⟩;clear HE S;go_wp2
  .exact bodyPost_ret (v:=.agg #[Zg 1,.string s,Zg r,.string q,Zg l,Zg u]) (by simp[results,results38,go_sem,H,I,J,L,M,N]) rfl (F.o 1 _ GO)
  .exact bodyPost_ret (v:=.agg #[Zg 2,.string s,Zg r,.string q,Zg l,Zg u]) (by simp[results,results38,go_sem,H,I,J,L,M,N]) rfl (F.o 2 _ GO)
  .exact bodyPost_ret (v:=.agg #[Zg 3,.string s,Zg r,.string q,Zg l,Zg u]) (by simp[results,results38,go_sem,H,I,J,L,M,N]) rfl (F.o 3 _ GO)
  .exact bodyPost_ret (v:=.agg #[Zg 4,.string s,Zg r,.string q,Zg l,Zg u]) (by simp[results,results38,go_sem,H,I,J,L,M,N]) rfl (F.o 4 _ GO)
  .exact bodyPost_ret (v:=.agg #[Zg 5,.string s,Zg r,.string q,Zg l,Zg u]) (by simp[results,results38,go_sem,H,I,J,L,M,N]) rfl (F.o 5 _ GO)
  .exact bodyPost_ret (v:=.agg #[Zg 6,.string s,Zg r,.string q,Zg l,Zg u]) (by simp[results,results38,go_sem,H,I,J,L,M,N]) rfl (F.o 6 _ GO)
  .exact bodyPost_ret (v:=.agg #[Zg 8,.string s,Zg r,.string q,Zg l,Zg u]) (by simp[results,results38,go_sem,H,I,J,L,M,N]) rfl (F.o 8 _ GO)
  .exact bodyPost_ret (v:=.agg #[Zg 9,.string s,Zg r,.string q,Zg l,Zg u]) (by simp[results,results38,go_sem,H,I,J,L,M,N]) rfl (F.o 9 _ GO)
  .exact bodyPost_ret (v:=.agg #[Zg 10,.string s,Zg r,.string q,Zg l,Zg u]) (by simp[results,results38,go_sem,H,I,J,L,M,N]) rfl (F.o 10 _ GO)
end Go.Proofs.YtoglnpagihdhpaaGreatDoor
