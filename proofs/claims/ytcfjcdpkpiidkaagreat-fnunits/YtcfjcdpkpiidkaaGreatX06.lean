import Derived.Test.YtcfjcdpkpiidkaaGreatX04
set_option maxRecDepth 100000
set_option maxHeartbeats 16000000
namespace Go.Proofs.YtcfjcdpkpiidkaaGreat
open ChangeShapes WideShapes ChangeAt RowKit _root_.Go.Proofs.Tryz
theorem Mb(z A:Zk)(c d:Nat)(h i:Zl)(w:Zh)(hr:Ab w w.heap.size z h)(Q:Ab w w.heap.size A i)(Y:z=none->h.length=0/\c=0)(Z:A=none->i.length=0/\d=0)(hl:h.length<=1048576)(zH:i.length<=1048576):
 Calls prog 70 #[.agg #[.slice z h.length c,.slice A i.length d]] w fun e w'=>∃x cx y cy,e=.returned (.agg #[Yz x h.length cx,Yz y i.length cy])/\
  w'.ownsRow w.heap.size 9 1 (Yz x h.length cx) h.length (h.map Value.string)/\w'.ownsRow w.heap.size 9 1 (Yz y i.length cy) i.length (i.map Value.string)/\x≠y/\Zz w w':=by
 obtain⟨R,N,B,C,D⟩:=info_parts BO;have zB:Below w.heap.size w ((w.alloc (.cells #[.slice z h.length c,.slice A i.length d] 67)).alloc (.cells #[Zb,Zb] 67)):=(Zy).alloc Yu _;obtain⟨W,hW⟩:=Af ((w.alloc (.cells #[.slice z h.length c,.slice A i.length d] 67)).alloc (.cells #[Zb,Zb] 67));have P:JF w W (.slice z h.length c) (.slice A i.length d):=by rw[hW];exact⟨by simp[go_sem],by simp[go_sem],by simp[go_sem],by simp[go_sem],fun o=>by simp[go_sem],zB,Yu⟩
 have HW:=Yw hW;have t:=Yw P;go_enter func70,ntmps70;go_wp2_with fail;rw[<-HW.o];obtain⟨b0,b1,r0,r1,f0,_,zI⟩:=P;obtain⟨a0,a1,_,_,_,_,_⟩:=t.o.alloc (.cells #[] 9);obtain⟨zF,zG,_,_,_,_,_⟩:=(t.o.alloc (.cells #[] 9)).alloc (.cells #[] 9);clear hW zB HW
 have oA:(W.alloc (.cells #[] 9)).drew.ownsRow (w.heap.size+2) 9 1 (Yz W.heap.size 0 0) 0 (([]:Zl).map Value.string):=World.ownsRow_lit W #[] 0 Yv Yo rfl
 have H:((W.alloc (.cells #[] 9)).alloc (.cells #[] 9)).drew.ownsRow (w.heap.size+2) 9 1 (Yz W.heap.size 0 0) 0 (([]:Zl).map Value.string):=World.ownsRow.alloc (World.ownsRow_lit W #[] 0 Yv Yo rfl) _;have I:((W.alloc (.cells #[] 9)).alloc (.cells #[] 9)).drew.ownsRow (w.heap.size+2) 9 1 (Yz (W.heap.size+1) 0 0) 0 (([]:Zl).map Value.string):=by have h1:=World.ownsRow_lit (base:=w.heap.size+2) (e:=9) (size:=1) (W.alloc (.cells #[] 9)) #[] 0 Yt Yo rfl;rw[World.size_alloc]at h1;exact h1
 have zC:=(hr.below (t.o.alloc (.cells #[] 9)).drew.bx).ay;have zE:=(Q.below (t.o.alloc (.cells #[] 9)).drew.bx).ay;have G:=(hr.below ((t.o.alloc (.cells #[] 9)).alloc (.cells #[] 9)).drew.bx).ay;have zA:=(Q.below ((t.o.alloc (.cells #[] 9)).alloc (.cells #[] 9)).drew.bx).ay
 go_region_law (first
  |(guard_target=if Region.wanted _ _=true then Oper.wp _ _ _ (W.alloc (.cells #[] 9)).drew _ _ else _;refine Ax (W.alloc (.cells #[] 9)).drew rfl (.tmp 3) (.tmp 5) 29 rfl (w.heap.size+2) 9 R Zc 16 underlying29 N B C D rfl (W.heap.size) 0 0 [] rfl oA z h.length c h rfl rfl Y zC Yo Yv Yl ?_;intro S F K s k l L;simp only[Nat.zero_add,List.nil_append]at s;have J:=k.size;simp at J l;have j:=(t.o.alloc _).drew.grown k Yv;have c0:=j.b0;have c1:=j.b1;have d0:=(j.alloc (.cells #[] 9)).b0;have d1:=(j.alloc (.cells #[] 9)).b1;have T:=J)
  |(guard_target=if Region.wanted _ _=true then Oper.wp _ _ _ ((W.alloc (.cells #[] 9)).alloc (.cells #[] 9)).drew _ _ else _;refine Ax ((W.alloc (.cells #[] 9)).alloc (.cells #[] 9)).drew rfl (.tmp 3) (.tmp 5) 29 rfl (w.heap.size+2) 9 R Zc 16 underlying29 N B C D rfl (W.heap.size) 0 0 [] rfl H z h.length c h rfl rfl Y G Yo Yv Yl ?_;intro S F K s k l L;simp only[Nat.zero_add,List.nil_append]at s;have J:=k.size;simp at J l;have j:=((t.o.alloc _).alloc _).drew.grown k Yv;have c0:=j.b0;have c1:=j.b1;have q:=I.kept k (.inr (by simp[Value.ownBlock]));have U:=J)
  |(guard_target=if Region.wanted _ _=true then Oper.wp _ _ _ ((W.alloc (.cells #[] 9)).alloc (.cells #[] 9)).drew _ _ else _;refine Ax ((W.alloc (.cells #[] 9)).alloc (.cells #[] 9)).drew rfl (.tmp 3) (.tmp 5) 29 rfl (w.heap.size+2) 9 R Zc 16 underlying29 N B C D rfl (W.heap.size+1) 0 0 [] rfl I z h.length c h rfl rfl Y G Yo Yv Yl ?_;intro S F K s k l L;simp only[Nat.zero_add,List.nil_append]at s;have J:=k.size;simp at J l;have j:=((t.o.alloc _).alloc _).drew.grown k Yv;have c0:=j.b0;have c1:=j.b1;have q:=H.kept k (.inr (by simp[Value.ownBlock]));have V:=J)
  |(have r:=T;refine Ax (K.alloc (.cells #[] 9)) rfl (.tmp 7) (.tmp 9) 29 rfl (w.heap.size+2) 9 R Zc 16 underlying29 N B C D rfl (K.heap.size) 0 0 [] rfl (World.ownsRow_lit K #[] 0 Yv Yo rfl) A i.length d i rfl rfl Z (Q.below (j.alloc _).bx).ay Yo Yv Yl ?_;intro E n w9 f b g u;simp only[Nat.zero_add,List.nil_append]at f;have X:=b.size;(try simp at X g);have F6:=(s.alloc _).kept b (.inr (by simp[Value.ownBlock];omega));have M:=f;have O:S≠E:=Yv;have m:=(j.alloc _).grown b Yv;have y0:=m.r0;have y1:=m.r1;have yf:=m.f)
  |(have r:=U;refine Ax K rfl (.tmp 7) (.tmp 9) 29 rfl (w.heap.size+2) 9 R Zc 16 underlying29 N B C D rfl (W.heap.size+1) 0 0 [] rfl q A i.length d i rfl rfl Z (Q.below j.bx).ay Yo Yv Yl ?_;intro E n w9 f b g u;simp only[Nat.zero_add,List.nil_append]at f;have X:=b.size;(try simp at X g);have F6:=s.kept b (.inr (by simp[Value.ownBlock];omega));have M:=f;have O:S≠E:=Yv;have m:=j.grown b Yv;have y0:=m.r0;have y1:=m.r1;have yf:=m.f)
  |(have r:=V;refine Ax K rfl (.tmp 7) (.tmp 9) 29 rfl (w.heap.size+2) 9 R Zc 16 underlying29 N B C D rfl (W.heap.size) 0 0 [] rfl q A i.length d i rfl rfl Z (Q.below j.bx).ay Yo Yv Yl ?_;intro E n w9 f b g u;simp only[Nat.zero_add,List.nil_append]at f;have X:=b.size;(try simp at X g);have F6:=s.kept b (.inr (by simp[Value.ownBlock];omega));have M:=f;have O:S≠E:=Yv;have m:=j.grown b Yv;have y0:=m.r0;have y1:=m.r1;have yf:=m.f))
 all_goals
  have HF:=Yw (Zn F6 (Zn M (Zn O m)));clear m;clear F6 M O oA H I zC zE G zA hr Q t;go_wp2;refine bodyPost_ret (v:=.agg #[Yz S h.length F,Yz E i.length n]) (by simp[results,results70,go_sem,y0,y1]) rfl ⟨_,_,_,_,rfl,?_,?_,HF.o.2.2.1,?_⟩
  .exact(ownsRow_setCell_below (ownsRow_setCell_below HF.o.1 (a:=⟨w.heap.size+1,0,none⟩) Yu _) (a:=⟨w.heap.size+1,1,none⟩) Yu _).mono Yv
  .exact(ownsRow_setCell_below (ownsRow_setCell_below HF.o.2.1 (a:=⟨w.heap.size+1,0,none⟩) Yu _) (a:=⟨w.heap.size+1,1,none⟩) Yu _).mono Yv
  .exact(HF.o.2.2.2.bx.setCell (p:=⟨w.heap.size+1,0,none⟩) Yu _).setCell (p:=⟨w.heap.size+1,1,none⟩) Yu _
theorem US(l m:Zk)(c d:Nat)(g f:Zl)(w:Zh)(N:Ab w w.heap.size l g)(M:Ab w w.heap.size m f)(Z:l=none->g.length=0/\c=0)(zA:m=none->f.length=0/\d=0)(hl:g.length<=1048576)(zB:f.length<=1048576)(T:∀s∈g,s.size<=1048576)(E:∀s∈f,s.size<=1048576):
 Calls prog 102 #[.agg #[.slice l g.length c,.slice m f.length d]] w fun e W=>∃v,e=.returned (.agg #[v,Zb])/\
  W.ownsRow w.heap.size 9 1 v (BE g f f.length).length ((BE g f f.length).map Value.string)/\Zz w W:=by
 obtain⟨U,S,F,G,H⟩:=info_parts BO;have t:Below w.heap.size w ((w.alloc (.cells #[.slice l g.length c,.slice m f.length d] 67)).alloc (.cells #[Zb,Zb] 67)):=(Zy).alloc Yu _;go_enter func102,ntmps102;go_wp2_with fail;refine(DL _ _ c d g f _ _ (Zx) (N.L t) (M.L t) hl zB T E).mono ?_;rintro e b ⟨rfl,h⟩;have q:=t.trans (h.mono Yt);have y:=h.size;simp at y
 have c0:b.cell? (Zd (w.heap.size) 0)=some (.slice l g.length c):=by rw[h.cell (p:=⟨w.heap.size,0,none⟩) Yt];simp
 have c1:b.cell? (Zd (w.heap.size) 1)=some (.slice m f.length d):=by rw[h.cell (p:=⟨w.heap.size,1,none⟩) Yt];simp
 have r0:b.cell? (Zd (w.heap.size+1) 0)=some Zb:=by rw[h.cell (p:=⟨w.heap.size+1,0,none⟩) Yu];simp
 have O:b.cell? (Zd (w.heap.size+1) 1)=some Zb:=by rw[h.cell (p:=⟨w.heap.size+1,1,none⟩) Yu];simp
 have Q:∀o,b.frozen? ⟨w.heap.size+1,o,none⟩=false:=fun o=>by rw[h.frozen (p:=⟨w.heap.size+1,o,none⟩) Yu];simp[go_sem]
 clear h;cases hok:Dg g f with
 |false=>
  go_wp2;refine bodyPost_ret (v:=.agg #[Zb,Zb]) (by simp[results,results102,go_sem,r0,O]) rfl ⟨Zb,rfl,?_,?_⟩
  .simp only[BE,hok];exact World.ownsRow_nil _ _ _ _
  .exact(q.setCell (p:=⟨w.heap.size+1,0,none⟩) Yu _).setCell (p:=⟨w.heap.size+1,1,none⟩) Yu _
 |true=>
  have z:Below w.heap.size w (b.alloc (.cells #[] 9)):=q.alloc q.size _;have a0:(b.alloc (.cells #[] 9)).cell? (Zd (w.heap.size) 0)=some (.slice l g.length c):=by rw[((Below.refl b.heap.size b).alloc (Zx) _).cell (p:=⟨w.heap.size,0,none⟩) Yt];exact c0
  have a1:(b.alloc (.cells #[] 9)).cell? (Zd (w.heap.size) 1)=some (.slice m f.length d):=by rw[((Below.refl b.heap.size b).alloc (Zx) _).cell (p:=⟨w.heap.size,1,none⟩) Yt];exact c1
  have b0:(b.alloc (.cells #[] 9)).cell? (Zd (w.heap.size+1) 0)=some Zb:=by rw[((Below.refl b.heap.size b).alloc (Zx) _).cell (p:=⟨w.heap.size+1,0,none⟩) Yt];exact r0
  have b1:(b.alloc (.cells #[] 9)).cell? (Zd (w.heap.size+1) 1)=some Zb:=by rw[((Below.refl b.heap.size b).alloc (Zx) _).cell (p:=⟨w.heap.size+1,1,none⟩) Yt];exact O
  have g0:∀o,(b.alloc (.cells #[] 9)).frozen? ⟨w.heap.size+1,o,none⟩=false:=fun o=>by rw[((Below.refl b.heap.size b).alloc (Zx) _).frozen (p:=⟨w.heap.size+1,o,none⟩) Yt];exact Q o
  have D:=(N.below z).ay;have C:(b.alloc (.cells #[] 9)).ownsRow (w.heap.size+2) 9 1 (Yz b.heap.size 0 0) 0 (([]:Zl).map Value.string):=World.ownsRow_lit b #[] 0 Yv Yo rfl;have A:BE g f f.length=g++f:=by simp[BE,hok]
  have J:=Yw (Zn D C);have X:=Yw A;clear D C A N T E r0 O Q;go_wp2
  go_region_law (first
   |(refine Ax _ rfl (.tmp 7) (.tmp 9) 29 rfl (w.heap.size+2) 9 U Zc 16 underlying29 S F G H rfl b.heap.size 0 0 [] rfl (by exact J.o.2) l g.length c g rfl rfl Z (by exact J.o.1) Yo Yv Yt ?_;intro V u w3 n i _ _;simp only[Nat.zero_add,List.nil_append]at n;have I:=i.size;have l1:=i.cell (a:=⟨w.heap.size,1,none⟩) (by exact a1) Yt;have q0:=i.cell (a:=⟨w.heap.size+1,0,none⟩) (by exact b0) Yt;have q1:=i.cell (a:=⟨w.heap.size+1,1,none⟩) (by exact b1) Yt;have qf:∀o,w3.frozen? ⟨w.heap.size+1,o,none⟩=false:=fun o=>(i.frozen_far ⟨w.heap.size+1,o,none⟩ Yt Yt).trans (g0 o);have r:=z.drew.grown i Yt (fun k K=>by cases K;omega);have zC:=r.size;have zE:=(n.lt V rfl).1)
   |(refine Ax _ rfl (.tmp 10) (.tmp 12) 29 rfl (w.heap.size+2) 9 U Zc 16 underlying29 S F G H rfl V g.length u g rfl n m f.length d f rfl rfl zA (M.below r).ay Yo Yv (by simp at I;omega) ?_;intro k4 x w4 B j _ _;have zF:=j.size;have p0:=j.cell (a:=⟨w.heap.size+1,0,none⟩) q0 Yt;have p1:=j.cell (a:=⟨w.heap.size+1,1,none⟩) q1 Yt;have pf:∀o,w4.frozen? ⟨w.heap.size+1,o,none⟩=false:=fun o=>(j.frozen_far ⟨w.heap.size+1,o,none⟩ (by simp at I;simp;omega) Yt).trans (qf o);have Y:=r.grown j Yv (fun k K=>by cases K;omega)))
  all_goals
   have R:=Fv (L:=g++f) Y (by rw[List.length_append];exact B);have P:=Yw R;clear R n B i j M J;go_wp2;refine bodyPost_ret (v:=.agg #[Yz k4 (g.length+f.length) x,Zb]) (by simp[results,results102,go_sem,p0,p1]) rfl ⟨_,rfl,?_,P.o.2⟩;rw[X.o];exact P.o.1
theorem RG(t:Zk)(n:Addr)(c d:Nat)(f b:Zl)(ah:Int)(h0:0<=ah)(w:Zh)(V:Ab w w.heap.size t f)(K:Ab w w.heap.size (some n) b)(zA:t=none->f.length=0/\c=0)(hl:f.length<=1048576)(zE:b.length<=1048576)(hs:∀s∈f,s.size<=1048576)(T:∀s∈b,s.size<=1048576)(hd:b.length<=d):
 Calls prog 103 #[.agg #[.slice t f.length c,.slice (some n) b.length d],Zg ah] w fun e w'=>∃v,e=.returned (.agg #[v,Zb])/\
  w'.ownsRow w.heap.size 9 1 v (BE f b ah).length ((BE f b ah).map Value.string)/\Zz w w':=by
 obtain⟨W,U,G,H,I⟩:=info_parts BO;have S:Below w.heap.size w ((w.alloc (.cells #[.slice t f.length c,.slice (some n) b.length d] 67)).alloc (.cells #[Zb,Zb] 67)):=(Zy).alloc Yu _;go_enter func103,ntmps103;go_wp2_with fail;refine(DL _ _ c d f b _ _ (Zx) (V.L S) (K.L S) hl zE hs T).mono ?_;rintro e g ⟨rfl,l⟩;have O:=S.trans (l.mono Yt);have Y:=l.size;simp at Y
 have c0:g.cell? (Zd (w.heap.size) 0)=some (.slice t f.length c):=by rw[l.cell (p:=⟨w.heap.size,0,none⟩) Yt];simp
 have c1:g.cell? (Zd (w.heap.size) 1)=some (.slice (some n) b.length d):=by rw[l.cell (p:=⟨w.heap.size,1,none⟩) Yt];simp
 have r0:g.cell? (Zd (w.heap.size+1) 0)=some Zb:=by rw[l.cell (p:=⟨w.heap.size+1,0,none⟩) Yu];simp
 have X:g.cell? (Zd (w.heap.size+1) 1)=some Zb:=by rw[l.cell (p:=⟨w.heap.size+1,1,none⟩) Yu];simp
 have f0:∀o,g.frozen? ⟨w.heap.size+1,o,none⟩=false:=fun o=>by rw[l.frozen (p:=⟨w.heap.size+1,o,none⟩) Yu];simp[go_sem]
 clear l;cases hok:Dg f b with
 |false=>
  go_wp2;refine bodyPost_ret (v:=.agg #[Zb,Zb]) (by simp[results,results103,go_sem,r0,X]) rfl ⟨Zb,rfl,?_,?_⟩
  .simp only[BE,hok];exact World.ownsRow_nil _ _ _ _
  .exact(O.setCell (p:=⟨w.heap.size+1,0,none⟩) Yu _).setCell (p:=⟨w.heap.size+1,1,none⟩) Yu _
 |true=>
  have Q:Below w.heap.size w (g.alloc (.cells #[] 9)):=O.alloc O.size _;have a0:(g.alloc (.cells #[] 9)).cell? (Zd (w.heap.size) 0)=some (.slice t f.length c):=by rw[((Below.refl g.heap.size g).alloc (Zx) _).cell (p:=⟨w.heap.size,0,none⟩) Yt];exact c0
  have a1:(g.alloc (.cells #[] 9)).cell? (Zd (w.heap.size) 1)=some (.slice (some n) b.length d):=by rw[((Below.refl g.heap.size g).alloc (Zx) _).cell (p:=⟨w.heap.size,1,none⟩) Yt];exact c1
  have b0:(g.alloc (.cells #[] 9)).cell? (Zd (w.heap.size+1) 0)=some Zb:=by rw[((Below.refl g.heap.size g).alloc (Zx) _).cell (p:=⟨w.heap.size+1,0,none⟩) Yt];exact r0
  have b1:(g.alloc (.cells #[] 9)).cell? (Zd (w.heap.size+1) 1)=some Zb:=by rw[((Below.refl g.heap.size g).alloc (Zx) _).cell (p:=⟨w.heap.size+1,1,none⟩) Yt];exact X
  have g0:∀o,(g.alloc (.cells #[] 9)).frozen? ⟨w.heap.size+1,o,none⟩=false:=fun o=>by rw[((Below.refl g.heap.size g).alloc (Zx) _).frozen (p:=⟨w.heap.size+1,o,none⟩) Yt];exact f0 o
  have F:=(V.below Q).ay;have E:(g.alloc (.cells #[] 9)).ownsRow (w.heap.size+2) 9 1 (Yz g.heap.size 0 0) 0 (([]:Zl).map Value.string):=World.ownsRow_lit g #[] 0 Yv Yo rfl;by_cases h1:(b.length:Int)<ah
  .have zC:¬ah<0:=Yv
   have y:BE f b ah=f++b.take (b.length):=by simp only[BE,hok,if_true];rw[show(min (max ah 0) (b.length:Int)).toNat=b.length from by omega]
   have x:(b.take (b.length)).length=b.length:=by rw[List.length_take];omega
   have A:Ab w w.heap.size (some n) (b.take (b.length)):=K.take (b.length);have C:=Yw (Zn F E);have N:=Yw y;have u:=Yw x;clear F E y x V K hs T r0 X f0;go_wp2
   go_region_law (first
    |(refine Ax _ rfl (.tmp 19) (.tmp 21) 29 rfl (w.heap.size+2) 9 W Zc 16 underlying29 U G H I rfl g.heap.size 0 0 [] rfl (by exact C.o.2) t f.length c f rfl rfl zA (by exact C.o.1) Yo Yv Yt ?_;intro M q w3 j h _ _;simp only[Nat.zero_add,List.nil_append]at j;have B:=h.size;have l1:=h.cell (a:=⟨w.heap.size,1,none⟩) (by exact a1) Yt;have q0:=h.cell (a:=⟨w.heap.size+1,0,none⟩) (by exact b0) Yt;have q1:=h.cell (a:=⟨w.heap.size+1,1,none⟩) (by exact b1) Yt;have qf:∀o,w3.frozen? ⟨w.heap.size+1,o,none⟩=false:=fun o=>(h.frozen_far ⟨w.heap.size+1,o,none⟩ Yt Yt).trans (g0 o);have m:=Q.drew.grown h Yt (fun k D=>by cases D;omega);have Z:=m.size;have zB:=(j.lt M rfl).1)
    |(refine Ax _ rfl (.tmp 22) (.tmp 26) 29 rfl (w.heap.size+2) 9 W Zc 16 underlying29 U G H I rfl M f.length q f rfl j (some n) (b.length) d (b.take (b.length)) rfl u.o (fun e=>by cases e) (A.below m).ay Yo Yv (by simp at B;omega) ?_;intro k4 r w4 z i _ _;have zF:=i.size;have p0:=i.cell (a:=⟨w.heap.size+1,0,none⟩) q0 Yt;have p1:=i.cell (a:=⟨w.heap.size+1,1,none⟩) q1 Yt;have pf:∀o,w4.frozen? ⟨w.heap.size+1,o,none⟩=false:=fun o=>(i.frozen_far ⟨w.heap.size+1,o,none⟩ (by simp at B;simp;omega) Yt).trans (qf o);have P:=m.grown i Yv (fun k D=>by cases D;omega)))
   all_goals
    have R:=Fv (L:=f++b.take (b.length)) P (by rw[List.length_append,u.o];exact z);have J:=Yw R;clear R j z h i A C;go_wp2;refine bodyPost_ret (v:=.agg #[Yz k4 (f.length+(b.length)) r,Zb]) (by simp[results,results103,go_sem,p0,p1]) rfl ⟨_,rfl,?_,J.o.2⟩;rw[N.o];exact J.o.1
  .have zC:0<=ah:=Yv
   have zG:ah<=b.length:=Yv
   have zH:ah.toNat<=b.length:=Yv
   have zB:ah<=d:=Yv
   have y:BE f b ah=f++b.take (ah.toNat):=by simp only[BE,hok,if_true];rw[show(min (max ah 0) (b.length:Int)).toNat=ah.toNat from by omega]
   have x:(b.take (ah.toNat)).length=ah.toNat:=by rw[List.length_take];omega
   have A:Ab w w.heap.size (some n) (b.take (ah.toNat)):=K.take (ah.toNat);have C:=Yw (Zn F E);have N:=Yw y;have u:=Yw x;clear F E y x V K hs T r0 X f0;go_wp2
   go_region_law (first
    |(refine Ax _ rfl (.tmp 19) (.tmp 21) 29 rfl (w.heap.size+2) 9 W Zc 16 underlying29 U G H I rfl g.heap.size 0 0 [] rfl (by exact C.o.2) t f.length c f rfl rfl zA (by exact C.o.1) Yo Yv Yt ?_;intro M q w3 j h _ _;simp only[Nat.zero_add,List.nil_append]at j;have B:=h.size;have l1:=h.cell (a:=⟨w.heap.size,1,none⟩) (by exact a1) Yt;have q0:=h.cell (a:=⟨w.heap.size+1,0,none⟩) (by exact b0) Yt;have q1:=h.cell (a:=⟨w.heap.size+1,1,none⟩) (by exact b1) Yt;have qf:∀o,w3.frozen? ⟨w.heap.size+1,o,none⟩=false:=fun o=>(h.frozen_far ⟨w.heap.size+1,o,none⟩ Yt Yt).trans (g0 o);have m:=Q.drew.grown h Yt (fun k D=>by cases D;omega);have Z:=m.size;have zB:=(j.lt M rfl).1)
    |(refine Ax _ rfl (.tmp 22) (.tmp 26) 29 rfl (w.heap.size+2) 9 W Zc 16 underlying29 U G H I rfl M f.length q f rfl j (some n) (ah.toNat) d (b.take (ah.toNat)) rfl u.o (fun e=>by cases e) (A.below m).ay Yo Yv (by simp at B;omega) ?_;intro k4 r w4 z i _ _;have zF:=i.size;have p0:=i.cell (a:=⟨w.heap.size+1,0,none⟩) q0 Yt;have p1:=i.cell (a:=⟨w.heap.size+1,1,none⟩) q1 Yt;have pf:∀o,w4.frozen? ⟨w.heap.size+1,o,none⟩=false:=fun o=>(i.frozen_far ⟨w.heap.size+1,o,none⟩ (by simp at B;simp;omega) Yt).trans (qf o);have P:=m.grown i Yv (fun k D=>by cases D;omega)))
   all_goals
    have R:=Fv (L:=f++b.take (ah.toNat)) P (by rw[List.length_append,u.o];exact z);have J:=Yw R;clear R j z h i A C;go_wp2;refine bodyPost_ret (v:=.agg #[Yz k4 (f.length+(ah.toNat)) r,Zb]) (by simp[results,results103,go_sem,p0,p1]) rfl ⟨_,rfl,?_,J.o.2⟩;rw[N.o];exact J.o.1
theorem RH(m:Zk)(c:Nat)(b:Zl)(ah:Int)(h0:0<=ah)(w:Zh)(M:Ab w w.heap.size m b)(T:m=none->b.length=0/\c=0)(hl:b.length<=1048576)(V:∀s∈b,s.size<=1048576):
 Calls prog 103 #[.agg #[.slice m b.length c,Zb],Zg ah] w fun e w'=>∃v,e=.returned (.agg #[v,Zb])/\
  w'.ownsRow w.heap.size 9 1 v (BE b [] ah).length ((BE b [] ah).map Value.string)/\Zz w w':=by
 obtain⟨N,K,B,C,D⟩:=info_parts BO;have S:Below w.heap.size w ((w.alloc (.cells #[.slice m b.length c,Zb] 67)).alloc (.cells #[Zb,Zb] 67)):=(Zy).alloc Yu _;go_enter func103,ntmps103;go_wp2_with fail;refine(DL _ none c 0 b [] _ _ (Zx) (M.L S) (.inl rfl) hl Yu V Yu).mono ?_;rintro e d ⟨rfl,i⟩;have H:=S.trans (i.mono Yt);have P:=i.size;simp at P
 have c0:d.cell? (Zd (w.heap.size) 0)=some (.slice m b.length c):=by rw[i.cell (p:=⟨w.heap.size,0,none⟩) Yt];simp
 have c1:d.cell? (Zd (w.heap.size) 1)=some Zb:=by rw[i.cell (p:=⟨w.heap.size,1,none⟩) Yt];simp
 have r0:d.cell? (Zd (w.heap.size+1) 0)=some Zb:=by rw[i.cell (p:=⟨w.heap.size+1,0,none⟩) Yu];simp
 have O:d.cell? (Zd (w.heap.size+1) 1)=some Zb:=by rw[i.cell (p:=⟨w.heap.size+1,1,none⟩) Yu];simp
 have U:∀o,d.frozen? ⟨w.heap.size+1,o,none⟩=false:=fun o=>by rw[i.frozen (p:=⟨w.heap.size+1,o,none⟩) Yu];simp[go_sem]
 clear i;cases hok:Dg b []with
 |false=>
  go_wp2;refine bodyPost_ret (v:=.agg #[Zb,Zb]) (by simp[results,results103,go_sem,r0,O]) rfl ⟨Zb,rfl,?_,?_⟩
  .simp only[BE,hok];exact World.ownsRow_nil _ _ _ _
  .exact(H.setCell (p:=⟨w.heap.size+1,0,none⟩) Yu _).setCell (p:=⟨w.heap.size+1,1,none⟩) Yu _
 |true=>
  have J:Below w.heap.size w (d.alloc (.cells #[] 9)):=H.alloc H.size _;have a0:(d.alloc (.cells #[] 9)).cell? (Zd (w.heap.size) 0)=some (.slice m b.length c):=by rw[((Below.refl d.heap.size d).alloc (Zx) _).cell (p:=⟨w.heap.size,0,none⟩) Yt];exact c0
  have a1:(d.alloc (.cells #[] 9)).cell? (Zd (w.heap.size) 1)=some Zb:=by rw[((Below.refl d.heap.size d).alloc (Zx) _).cell (p:=⟨w.heap.size,1,none⟩) Yt];exact c1
  have b0:(d.alloc (.cells #[] 9)).cell? (Zd (w.heap.size+1) 0)=some Zb:=by rw[((Below.refl d.heap.size d).alloc (Zx) _).cell (p:=⟨w.heap.size+1,0,none⟩) Yt];exact r0
  have b1:(d.alloc (.cells #[] 9)).cell? (Zd (w.heap.size+1) 1)=some Zb:=by rw[((Below.refl d.heap.size d).alloc (Zx) _).cell (p:=⟨w.heap.size+1,1,none⟩) Yt];exact O
  have g0:∀o,(d.alloc (.cells #[] 9)).frozen? ⟨w.heap.size+1,o,none⟩=false:=fun o=>by rw[((Below.refl d.heap.size d).alloc (Zx) _).frozen (p:=⟨w.heap.size+1,o,none⟩) Yt];exact U o
  have z:=(M.below J).ay;have y:(d.alloc (.cells #[] 9)).ownsRow (w.heap.size+2) 9 1 (Yz d.heap.size 0 0) 0 (([]:Zl).map Value.string):=World.ownsRow_lit d #[] 0 Yv Yo rfl;by_cases h1:(0:Int)<ah
  .have zC:¬ah<0:=Yv
   have q:BE b [] ah=b++[]:=by simp[BE,hok]
   have u:=Yw (Zn z y);have G:=Yw q;clear z y q M V r0 O U;go_wp2
   go_region_law (first
    |(refine Ax _ rfl (.tmp 19) (.tmp 21) 29 rfl (w.heap.size+2) 9 N Zc 16 underlying29 K B C D rfl d.heap.size 0 0 [] rfl (by exact u.o.2) m b.length c b rfl rfl T (by exact u.o.1) Yo Yv Yt ?_;intro F j w3 h f _ _;simp only[Nat.zero_add,List.nil_append]at h;have t:=f.size;have l1:=f.cell (a:=⟨w.heap.size,1,none⟩) (by exact a1) Yt;have Z:=f.cell (a:=⟨w.heap.size+1,0,none⟩) (by exact b0) Yt;have q1:=f.cell (a:=⟨w.heap.size+1,1,none⟩) (by exact b1) Yt;have qf:∀o,w3.frozen? ⟨w.heap.size+1,o,none⟩=false:=fun o=>(f.frozen_far ⟨w.heap.size+1,o,none⟩ Yt Yt).trans (g0 o);have n:=J.drew.grown f Yt (fun k x=>by cases x;omega);have Q:=n.size;have zA:=(h.lt F rfl).1)
    |(refine Ax _ rfl (.tmp 22) (.tmp 26) 29 rfl (w.heap.size+2) 9 N Zc 16 underlying29 K B C D rfl F b.length j b rfl h none 0 0 [] rfl rfl (fun _=>⟨rfl,rfl⟩) (fun A e=>by cases e) Yo Yv (by simp at t;omega) ?_;intro W l w4 r g _ _;have zB:=g.size;have X:=g.cell (a:=⟨w.heap.size+1,0,none⟩) Z Yt;have Y:=g.cell (a:=⟨w.heap.size+1,1,none⟩) q1 Yt;have pf:∀o,w4.frozen? ⟨w.heap.size+1,o,none⟩=false:=fun o=>(g.frozen_far ⟨w.heap.size+1,o,none⟩ (by simp at t;simp;omega) Yt).trans (qf o);have I:=n.grown g Yv (fun k x=>by cases x;omega)))
   all_goals
    have R:=Fv (L:=b++[]) I (by rw[List.length_append];exact r);have E:=Yw R;clear R h r f g u;go_wp2;refine bodyPost_ret (v:=.agg #[Yz W (b.length+0) l,Zb]) (by simp[results,results103,go_sem,X,Y]) rfl ⟨_,rfl,?_,E.o.2⟩;rw[G.o];exact E.o.1
  .obtain rfl:ah=0:=Yv
   have q:BE b [] 0=b++[]:=by simp[BE,hok]
   have u:=Yw (Zn z y);have G:=Yw q;clear z y q M V r0 O U;go_wp2
   go_region_law (first
    |(refine Ax _ rfl (.tmp 19) (.tmp 21) 29 rfl (w.heap.size+2) 9 N Zc 16 underlying29 K B C D rfl d.heap.size 0 0 [] rfl (by exact u.o.2) m b.length c b rfl rfl T (by exact u.o.1) Yo Yv Yt ?_;intro F j w3 h f _ _;simp only[Nat.zero_add,List.nil_append]at h;have t:=f.size;have l1:=f.cell (a:=⟨w.heap.size,1,none⟩) (by exact a1) Yt;have Z:=f.cell (a:=⟨w.heap.size+1,0,none⟩) (by exact b0) Yt;have q1:=f.cell (a:=⟨w.heap.size+1,1,none⟩) (by exact b1) Yt;have qf:∀o,w3.frozen? ⟨w.heap.size+1,o,none⟩=false:=fun o=>(f.frozen_far ⟨w.heap.size+1,o,none⟩ Yt Yt).trans (g0 o);have n:=J.drew.grown f Yt (fun k x=>by cases x;omega);have Q:=n.size;have zA:=(h.lt F rfl).1)
    |(refine Ax _ rfl (.tmp 22) (.tmp 26) 29 rfl (w.heap.size+2) 9 N Zc 16 underlying29 K B C D rfl F b.length j b rfl h none 0 0 [] rfl rfl (fun _=>⟨rfl,rfl⟩) (fun A e=>by cases e) Yo Yv (by simp at t;omega) ?_;intro W l w4 r g _ _;have zB:=g.size;have X:=g.cell (a:=⟨w.heap.size+1,0,none⟩) Z Yt;have Y:=g.cell (a:=⟨w.heap.size+1,1,none⟩) q1 Yt;have pf:∀o,w4.frozen? ⟨w.heap.size+1,o,none⟩=false:=fun o=>(g.frozen_far ⟨w.heap.size+1,o,none⟩ (by simp at t;simp;omega) Yt).trans (qf o);have I:=n.grown g Yv (fun k x=>by cases x;omega)))
   all_goals
    have R:=Fv (L:=b++[]) I (by rw[List.length_append];exact r);have E:=Yw R;clear R h r f g u;go_wp2;refine bodyPost_ret (v:=.agg #[Yz W (b.length+0) l,Zb]) (by simp[results,results103,go_sem,X,Y]) rfl ⟨_,rfl,?_,E.o.2⟩;rw[G.o];exact E.o.1
end Go.Proofs.YtcfjcdpkpiidkaaGreat
