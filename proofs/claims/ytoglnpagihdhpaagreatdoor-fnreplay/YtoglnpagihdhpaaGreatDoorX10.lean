import Derived.Test.YtoglnpagihdhpaaGreatDoorX05
import Derived.Test.YtoglnpagihdhpaaGreatDoorX04
import Derived.Test.YtoglnpagihdhpaaGreatDoorX03
set_option maxRecDepth 100000
set_option maxHeartbeats 16000000
namespace Go.Proofs.YtoglnpagihdhpaaGreatDoor
open ChangeShapes WideShapes ChangeAt RowKit _root_.Go.Proofs.Tryz
variable{l:Zl}{x:Zi}
theorem XE(l m:Zk)(c d:Nat)(g f:Zl)(w:Zh)(N:Ad w w.heap.size l g)(M:Ad w w.heap.size m f)(Z:l=none->g.length=0/\c=0)(zA:m=none->f.length=0/\d=0)(hl:g.length<=1048576)(zB:f.length<=1048576)(T:∀s∈g,s.size<=1048576)(E:∀s∈f,s.size<=1048576):
 Calls prog 126 #[.agg #[.slice l g.length c,.slice m f.length d]] w fun e W=>∃v,e=.returned (.agg #[v,Zb])/\
  W.ownsRow w.heap.size 9 1 v (Bx g f f.length).length ((Bx g f f.length).map Value.string)/\Zz w W:=by
 obtain⟨U,S,F,G,H⟩:=info_parts Cq;have t:Below w.heap.size w ((w.alloc (.cells #[.slice l g.length c,.slice m f.length d] 47)).alloc (.cells #[Zb,Zb] 47)):=(Zy).alloc Yu _;go_enter func126,ntmps126;go_wp2_with fail;refine(Ef _ _ c d g f _ _ (Zx) (N.N t) (M.N t) hl zB T E).mono ?_;rintro e b ⟨rfl,h⟩;have q:=t.trans (h.mono Yt);have y:=h.size;simp at y
 have c0:b.cell? (Zd (w.heap.size) 0)=some (.slice l g.length c):=by rw[h.cell (p:=⟨w.heap.size,0,none⟩) Yt];simp
 have c1:b.cell? (Zd (w.heap.size) 1)=some (.slice m f.length d):=by rw[h.cell (p:=⟨w.heap.size,1,none⟩) Yt];simp
 have r0:b.cell? (Zd (w.heap.size+1) 0)=some Zb:=by rw[h.cell (p:=⟨w.heap.size+1,0,none⟩) Yu];simp
 have O:b.cell? (Zd (w.heap.size+1) 1)=some Zb:=by rw[h.cell (p:=⟨w.heap.size+1,1,none⟩) Yu];simp
 have Q:∀o,b.frozen? ⟨w.heap.size+1,o,none⟩=false:=fun o=>by rw[h.frozen (p:=⟨w.heap.size+1,o,none⟩) Yu];simp[go_sem]
 clear h;cases hok:Ct g f with
 |false=>
  go_wp2;refine bodyPost_ret (v:=.agg #[Zb,Zb]) (by simp[results,results126,go_sem,r0,O]) rfl ⟨Zb,rfl,?_,?_⟩
  .simp only[Bx,hok];exact World.ownsRow_nil _ _ _ _
  .exact(q.setCell (p:=⟨w.heap.size+1,0,none⟩) Yu _).setCell (p:=⟨w.heap.size+1,1,none⟩) Yu _
 |true=>
  have z:Below w.heap.size w (b.alloc (.cells #[] 9)):=q.alloc q.size _;have a0:(b.alloc (.cells #[] 9)).cell? (Zd (w.heap.size) 0)=some (.slice l g.length c):=by rw[((Below.refl b.heap.size b).alloc (Zx) _).cell (p:=⟨w.heap.size,0,none⟩) Yt];exact c0
  have a1:(b.alloc (.cells #[] 9)).cell? (Zd (w.heap.size) 1)=some (.slice m f.length d):=by rw[((Below.refl b.heap.size b).alloc (Zx) _).cell (p:=⟨w.heap.size,1,none⟩) Yt];exact c1
  have b0:(b.alloc (.cells #[] 9)).cell? (Zd (w.heap.size+1) 0)=some Zb:=by rw[((Below.refl b.heap.size b).alloc (Zx) _).cell (p:=⟨w.heap.size+1,0,none⟩) Yt];exact r0
  have b1:(b.alloc (.cells #[] 9)).cell? (Zd (w.heap.size+1) 1)=some Zb:=by rw[((Below.refl b.heap.size b).alloc (Zx) _).cell (p:=⟨w.heap.size+1,1,none⟩) Yt];exact O
  have g0:∀o,(b.alloc (.cells #[] 9)).frozen? ⟨w.heap.size+1,o,none⟩=false:=fun o=>by rw[((Below.refl b.heap.size b).alloc (Zx) _).frozen (p:=⟨w.heap.size+1,o,none⟩) Yt];exact Q o
  have D:=(N.below z).ay;have C:(b.alloc (.cells #[] 9)).ownsRow (w.heap.size+2) 9 1 (Yz b.heap.size 0 0) 0 (([]:Zl).map Value.string):=World.ownsRow_lit b #[] 0 Yv Yo rfl;have A:Bx g f f.length=g++f:=by simp[Bx,hok]
  have J:=Yw (Zn D C);have X:=Yw A;clear D C A N T E r0 O Q;go_wp2
  go_region_law (first
   |(refine Ay _ rfl (.tmp 7) (.tmp 9) 23 rfl (w.heap.size+2) 9 U Zc 16 underlying23 S F G H rfl b.heap.size 0 0 [] rfl (by exact J.o.2) l g.length c g rfl rfl Z (by exact J.o.1) Yo Yv Yt ?_;intro V u w3 n i _ _;simp only[Nat.zero_add,List.nil_append]at n;have I:=i.size;have l1:=i.cell (a:=⟨w.heap.size,1,none⟩) (by exact a1) Yt;have q0:=i.cell (a:=⟨w.heap.size+1,0,none⟩) (by exact b0) Yt;have q1:=i.cell (a:=⟨w.heap.size+1,1,none⟩) (by exact b1) Yt;have qf:∀o,w3.frozen? ⟨w.heap.size+1,o,none⟩=false:=fun o=>(i.frozen_far ⟨w.heap.size+1,o,none⟩ Yt Yt).trans (g0 o);have r:=z.drew.grown i Yt (fun k K=>by cases K;omega);have zC:=r.size;have zE:=(n.lt V rfl).1)
   |(refine Ay _ rfl (.tmp 10) (.tmp 12) 23 rfl (w.heap.size+2) 9 U Zc 16 underlying23 S F G H rfl V g.length u g rfl n m f.length d f rfl rfl zA (M.below r).ay Yo Yv (by simp at I;omega) ?_;intro k4 x w4 B j _ _;have zF:=j.size;have p0:=j.cell (a:=⟨w.heap.size+1,0,none⟩) q0 Yt;have p1:=j.cell (a:=⟨w.heap.size+1,1,none⟩) q1 Yt;have pf:∀o,w4.frozen? ⟨w.heap.size+1,o,none⟩=false:=fun o=>(j.frozen_far ⟨w.heap.size+1,o,none⟩ (by simp at I;simp;omega) Yt).trans (qf o);have Y:=r.grown j Yv (fun k K=>by cases K;omega)))
  all_goals
   have R:=Gq (L:=g++f) Y (by rw[List.length_append];exact B);have P:=Yw R;clear R n B i j M J;go_wp2;refine bodyPost_ret (v:=.agg #[Yz k4 (g.length+f.length) x,Zb]) (by simp[results,results126,go_sem,p0,p1]) rfl ⟨_,rfl,?_,P.o.2⟩;rw[X.o];exact P.o.1
theorem TJ(t:Zk)(n:Addr)(c d:Nat)(f b:Zl)(ag:Int)(h0:0<=ag)(w:Zh)(V:Ad w w.heap.size t f)(K:Ad w w.heap.size (some n) b)(zA:t=none->f.length=0/\c=0)(hl:f.length<=1048576)(zE:b.length<=1048576)(hs:∀s∈f,s.size<=1048576)(T:∀s∈b,s.size<=1048576)(hd:b.length<=d):
 Calls prog 127 #[.agg #[.slice t f.length c,.slice (some n) b.length d],Zg ag] w fun e w'=>∃v,e=.returned (.agg #[v,Zb])/\
  w'.ownsRow w.heap.size 9 1 v (Bx f b ag).length ((Bx f b ag).map Value.string)/\Zz w w':=by
 obtain⟨W,U,G,H,I⟩:=info_parts Cq;have S:Below w.heap.size w ((w.alloc (.cells #[.slice t f.length c,.slice (some n) b.length d] 47)).alloc (.cells #[Zb,Zb] 47)):=(Zy).alloc Yu _;go_enter func127,ntmps127;go_wp2_with fail;refine(Ef _ _ c d f b _ _ (Zx) (V.N S) (K.N S) hl zE hs T).mono ?_;rintro e g ⟨rfl,l⟩;have O:=S.trans (l.mono Yt);have Y:=l.size;simp at Y
 have c0:g.cell? (Zd (w.heap.size) 0)=some (.slice t f.length c):=by rw[l.cell (p:=⟨w.heap.size,0,none⟩) Yt];simp
 have c1:g.cell? (Zd (w.heap.size) 1)=some (.slice (some n) b.length d):=by rw[l.cell (p:=⟨w.heap.size,1,none⟩) Yt];simp
 have r0:g.cell? (Zd (w.heap.size+1) 0)=some Zb:=by rw[l.cell (p:=⟨w.heap.size+1,0,none⟩) Yu];simp
 have X:g.cell? (Zd (w.heap.size+1) 1)=some Zb:=by rw[l.cell (p:=⟨w.heap.size+1,1,none⟩) Yu];simp
 have f0:∀o,g.frozen? ⟨w.heap.size+1,o,none⟩=false:=fun o=>by rw[l.frozen (p:=⟨w.heap.size+1,o,none⟩) Yu];simp[go_sem]
 clear l;cases hok:Ct f b with
 |false=>
  go_wp2;refine bodyPost_ret (v:=.agg #[Zb,Zb]) (by simp[results,results127,go_sem,r0,X]) rfl ⟨Zb,rfl,?_,?_⟩
  .simp only[Bx,hok];exact World.ownsRow_nil _ _ _ _
  .exact(O.setCell (p:=⟨w.heap.size+1,0,none⟩) Yu _).setCell (p:=⟨w.heap.size+1,1,none⟩) Yu _
 |true=>
  have Q:Below w.heap.size w (g.alloc (.cells #[] 9)):=O.alloc O.size _;have a0:(g.alloc (.cells #[] 9)).cell? (Zd (w.heap.size) 0)=some (.slice t f.length c):=by rw[((Below.refl g.heap.size g).alloc (Zx) _).cell (p:=⟨w.heap.size,0,none⟩) Yt];exact c0
  have a1:(g.alloc (.cells #[] 9)).cell? (Zd (w.heap.size) 1)=some (.slice (some n) b.length d):=by rw[((Below.refl g.heap.size g).alloc (Zx) _).cell (p:=⟨w.heap.size,1,none⟩) Yt];exact c1
  have b0:(g.alloc (.cells #[] 9)).cell? (Zd (w.heap.size+1) 0)=some Zb:=by rw[((Below.refl g.heap.size g).alloc (Zx) _).cell (p:=⟨w.heap.size+1,0,none⟩) Yt];exact r0
  have b1:(g.alloc (.cells #[] 9)).cell? (Zd (w.heap.size+1) 1)=some Zb:=by rw[((Below.refl g.heap.size g).alloc (Zx) _).cell (p:=⟨w.heap.size+1,1,none⟩) Yt];exact X
  have g0:∀o,(g.alloc (.cells #[] 9)).frozen? ⟨w.heap.size+1,o,none⟩=false:=fun o=>by rw[((Below.refl g.heap.size g).alloc (Zx) _).frozen (p:=⟨w.heap.size+1,o,none⟩) Yt];exact f0 o
  have F:=(V.below Q).ay;have E:(g.alloc (.cells #[] 9)).ownsRow (w.heap.size+2) 9 1 (Yz g.heap.size 0 0) 0 (([]:Zl).map Value.string):=World.ownsRow_lit g #[] 0 Yv Yo rfl;by_cases h1:(b.length:Int)<ag
  .have zC:¬ag<0:=Yv
   have y:Bx f b ag=f++b.take (b.length):=by simp only[Bx,hok,if_true];rw[show(min (max ag 0) (b.length:Int)).toNat=b.length from by omega]
   have x:(b.take (b.length)).length=b.length:=by rw[List.length_take];omega
   have A:Ad w w.heap.size (some n) (b.take (b.length)):=K.take (b.length);have C:=Yw (Zn F E);have N:=Yw y;have u:=Yw x;clear F E y x V K hs T r0 X f0;go_wp2
   go_region_law (first
    |(refine Ay _ rfl (.tmp 19) (.tmp 21) 23 rfl (w.heap.size+2) 9 W Zc 16 underlying23 U G H I rfl g.heap.size 0 0 [] rfl (by exact C.o.2) t f.length c f rfl rfl zA (by exact C.o.1) Yo Yv Yt ?_;intro M q w3 j h _ _;simp only[Nat.zero_add,List.nil_append]at j;have B:=h.size;have l1:=h.cell (a:=⟨w.heap.size,1,none⟩) (by exact a1) Yt;have q0:=h.cell (a:=⟨w.heap.size+1,0,none⟩) (by exact b0) Yt;have q1:=h.cell (a:=⟨w.heap.size+1,1,none⟩) (by exact b1) Yt;have qf:∀o,w3.frozen? ⟨w.heap.size+1,o,none⟩=false:=fun o=>(h.frozen_far ⟨w.heap.size+1,o,none⟩ Yt Yt).trans (g0 o);have m:=Q.drew.grown h Yt (fun k D=>by cases D;omega);have Z:=m.size;have zB:=(j.lt M rfl).1)
    |(refine Ay _ rfl (.tmp 22) (.tmp 26) 23 rfl (w.heap.size+2) 9 W Zc 16 underlying23 U G H I rfl M f.length q f rfl j (some n) (b.length) d (b.take (b.length)) rfl u.o (fun e=>by cases e) (A.below m).ay Yo Yv (by simp at B;omega) ?_;intro k4 r w4 z i _ _;have zF:=i.size;have p0:=i.cell (a:=⟨w.heap.size+1,0,none⟩) q0 Yt;have p1:=i.cell (a:=⟨w.heap.size+1,1,none⟩) q1 Yt;have pf:∀o,w4.frozen? ⟨w.heap.size+1,o,none⟩=false:=fun o=>(i.frozen_far ⟨w.heap.size+1,o,none⟩ (by simp at B;simp;omega) Yt).trans (qf o);have P:=m.grown i Yv (fun k D=>by cases D;omega)))
   all_goals
    have R:=Gq (L:=f++b.take (b.length)) P (by rw[List.length_append,u.o];exact z);have J:=Yw R;clear R j z h i A C;go_wp2;refine bodyPost_ret (v:=.agg #[Yz k4 (f.length+(b.length)) r,Zb]) (by simp[results,results127,go_sem,p0,p1]) rfl ⟨_,rfl,?_,J.o.2⟩;rw[N.o];exact J.o.1
  .have zC:0<=ag:=Yv
   have zG:ag<=b.length:=Yv
   have zH:ag.toNat<=b.length:=Yv
   have zB:ag<=d:=Yv
   have y:Bx f b ag=f++b.take (ag.toNat):=by simp only[Bx,hok,if_true];rw[show(min (max ag 0) (b.length:Int)).toNat=ag.toNat from by omega]
   have x:(b.take (ag.toNat)).length=ag.toNat:=by rw[List.length_take];omega
   have A:Ad w w.heap.size (some n) (b.take (ag.toNat)):=K.take (ag.toNat);have C:=Yw (Zn F E);have N:=Yw y;have u:=Yw x;clear F E y x V K hs T r0 X f0;go_wp2
   go_region_law (first
    |(refine Ay _ rfl (.tmp 19) (.tmp 21) 23 rfl (w.heap.size+2) 9 W Zc 16 underlying23 U G H I rfl g.heap.size 0 0 [] rfl (by exact C.o.2) t f.length c f rfl rfl zA (by exact C.o.1) Yo Yv Yt ?_;intro M q w3 j h _ _;simp only[Nat.zero_add,List.nil_append]at j;have B:=h.size;have l1:=h.cell (a:=⟨w.heap.size,1,none⟩) (by exact a1) Yt;have q0:=h.cell (a:=⟨w.heap.size+1,0,none⟩) (by exact b0) Yt;have q1:=h.cell (a:=⟨w.heap.size+1,1,none⟩) (by exact b1) Yt;have qf:∀o,w3.frozen? ⟨w.heap.size+1,o,none⟩=false:=fun o=>(h.frozen_far ⟨w.heap.size+1,o,none⟩ Yt Yt).trans (g0 o);have m:=Q.drew.grown h Yt (fun k D=>by cases D;omega);have Z:=m.size;have zB:=(j.lt M rfl).1)
    |(refine Ay _ rfl (.tmp 22) (.tmp 26) 23 rfl (w.heap.size+2) 9 W Zc 16 underlying23 U G H I rfl M f.length q f rfl j (some n) (ag.toNat) d (b.take (ag.toNat)) rfl u.o (fun e=>by cases e) (A.below m).ay Yo Yv (by simp at B;omega) ?_;intro k4 r w4 z i _ _;have zF:=i.size;have p0:=i.cell (a:=⟨w.heap.size+1,0,none⟩) q0 Yt;have p1:=i.cell (a:=⟨w.heap.size+1,1,none⟩) q1 Yt;have pf:∀o,w4.frozen? ⟨w.heap.size+1,o,none⟩=false:=fun o=>(i.frozen_far ⟨w.heap.size+1,o,none⟩ (by simp at B;simp;omega) Yt).trans (qf o);have P:=m.grown i Yv (fun k D=>by cases D;omega)))
   all_goals
    have R:=Gq (L:=f++b.take (ag.toNat)) P (by rw[List.length_append,u.o];exact z);have J:=Yw R;clear R j z h i A C;go_wp2;refine bodyPost_ret (v:=.agg #[Yz k4 (f.length+(ag.toNat)) r,Zb]) (by simp[results,results127,go_sem,p0,p1]) rfl ⟨_,rfl,?_,J.o.2⟩;rw[N.o];exact J.o.1
theorem TL(m:Zk)(c:Nat)(b:Zl)(ag:Int)(h0:0<=ag)(w:Zh)(M:Ad w w.heap.size m b)(T:m=none->b.length=0/\c=0)(hl:b.length<=1048576)(V:∀s∈b,s.size<=1048576):
 Calls prog 127 #[.agg #[.slice m b.length c,Zb],Zg ag] w fun e w'=>∃v,e=.returned (.agg #[v,Zb])/\
  w'.ownsRow w.heap.size 9 1 v (Bx b [] ag).length ((Bx b [] ag).map Value.string)/\Zz w w':=by
 obtain⟨N,K,B,C,D⟩:=info_parts Cq;have S:Below w.heap.size w ((w.alloc (.cells #[.slice m b.length c,Zb] 47)).alloc (.cells #[Zb,Zb] 47)):=(Zy).alloc Yu _;go_enter func127,ntmps127;go_wp2_with fail;refine(Ef _ none c 0 b [] _ _ (Zx) (M.N S) (.inl rfl) hl Yu V Yu).mono ?_;rintro e d ⟨rfl,i⟩;have H:=S.trans (i.mono Yt);have P:=i.size;simp at P
 have c0:d.cell? (Zd (w.heap.size) 0)=some (.slice m b.length c):=by rw[i.cell (p:=⟨w.heap.size,0,none⟩) Yt];simp
 have c1:d.cell? (Zd (w.heap.size) 1)=some Zb:=by rw[i.cell (p:=⟨w.heap.size,1,none⟩) Yt];simp
 have r0:d.cell? (Zd (w.heap.size+1) 0)=some Zb:=by rw[i.cell (p:=⟨w.heap.size+1,0,none⟩) Yu];simp
 have O:d.cell? (Zd (w.heap.size+1) 1)=some Zb:=by rw[i.cell (p:=⟨w.heap.size+1,1,none⟩) Yu];simp
 have U:∀o,d.frozen? ⟨w.heap.size+1,o,none⟩=false:=fun o=>by rw[i.frozen (p:=⟨w.heap.size+1,o,none⟩) Yu];simp[go_sem]
 clear i;cases hok:Ct b []with
 |false=>
  go_wp2;refine bodyPost_ret (v:=.agg #[Zb,Zb]) (by simp[results,results127,go_sem,r0,O]) rfl ⟨Zb,rfl,?_,?_⟩
  .simp only[Bx,hok];exact World.ownsRow_nil _ _ _ _
  .exact(H.setCell (p:=⟨w.heap.size+1,0,none⟩) Yu _).setCell (p:=⟨w.heap.size+1,1,none⟩) Yu _
 |true=>
  have J:Below w.heap.size w (d.alloc (.cells #[] 9)):=H.alloc H.size _;have a0:(d.alloc (.cells #[] 9)).cell? (Zd (w.heap.size) 0)=some (.slice m b.length c):=by rw[((Below.refl d.heap.size d).alloc (Zx) _).cell (p:=⟨w.heap.size,0,none⟩) Yt];exact c0
  have a1:(d.alloc (.cells #[] 9)).cell? (Zd (w.heap.size) 1)=some Zb:=by rw[((Below.refl d.heap.size d).alloc (Zx) _).cell (p:=⟨w.heap.size,1,none⟩) Yt];exact c1
  have b0:(d.alloc (.cells #[] 9)).cell? (Zd (w.heap.size+1) 0)=some Zb:=by rw[((Below.refl d.heap.size d).alloc (Zx) _).cell (p:=⟨w.heap.size+1,0,none⟩) Yt];exact r0
  have b1:(d.alloc (.cells #[] 9)).cell? (Zd (w.heap.size+1) 1)=some Zb:=by rw[((Below.refl d.heap.size d).alloc (Zx) _).cell (p:=⟨w.heap.size+1,1,none⟩) Yt];exact O
  have g0:∀o,(d.alloc (.cells #[] 9)).frozen? ⟨w.heap.size+1,o,none⟩=false:=fun o=>by rw[((Below.refl d.heap.size d).alloc (Zx) _).frozen (p:=⟨w.heap.size+1,o,none⟩) Yt];exact U o
  have z:=(M.below J).ay;have y:(d.alloc (.cells #[] 9)).ownsRow (w.heap.size+2) 9 1 (Yz d.heap.size 0 0) 0 (([]:Zl).map Value.string):=World.ownsRow_lit d #[] 0 Yv Yo rfl;by_cases h1:(0:Int)<ag
  .have zC:¬ag<0:=Yv
   have q:Bx b [] ag=b++[]:=by simp[Bx,hok]
   have u:=Yw (Zn z y);have G:=Yw q;clear z y q M V r0 O U;go_wp2
   go_region_law (first
    |(refine Ay _ rfl (.tmp 19) (.tmp 21) 23 rfl (w.heap.size+2) 9 N Zc 16 underlying23 K B C D rfl d.heap.size 0 0 [] rfl (by exact u.o.2) m b.length c b rfl rfl T (by exact u.o.1) Yo Yv Yt ?_;intro F j w3 h f _ _;simp only[Nat.zero_add,List.nil_append]at h;have t:=f.size;have l1:=f.cell (a:=⟨w.heap.size,1,none⟩) (by exact a1) Yt;have Z:=f.cell (a:=⟨w.heap.size+1,0,none⟩) (by exact b0) Yt;have q1:=f.cell (a:=⟨w.heap.size+1,1,none⟩) (by exact b1) Yt;have qf:∀o,w3.frozen? ⟨w.heap.size+1,o,none⟩=false:=fun o=>(f.frozen_far ⟨w.heap.size+1,o,none⟩ Yt Yt).trans (g0 o);have n:=J.drew.grown f Yt (fun k x=>by cases x;omega);have Q:=n.size;have zA:=(h.lt F rfl).1)
    |(refine Ay _ rfl (.tmp 22) (.tmp 26) 23 rfl (w.heap.size+2) 9 N Zc 16 underlying23 K B C D rfl F b.length j b rfl h none 0 0 [] rfl rfl (fun _=>⟨rfl,rfl⟩) (fun A e=>by cases e) Yo Yv (by simp at t;omega) ?_;intro W l w4 r g _ _;have zB:=g.size;have X:=g.cell (a:=⟨w.heap.size+1,0,none⟩) Z Yt;have Y:=g.cell (a:=⟨w.heap.size+1,1,none⟩) q1 Yt;have pf:∀o,w4.frozen? ⟨w.heap.size+1,o,none⟩=false:=fun o=>(g.frozen_far ⟨w.heap.size+1,o,none⟩ (by simp at t;simp;omega) Yt).trans (qf o);have I:=n.grown g Yv (fun k x=>by cases x;omega)))
   all_goals
    have R:=Gq (L:=b++[]) I (by rw[List.length_append];exact r);have E:=Yw R;clear R h r f g u;go_wp2;refine bodyPost_ret (v:=.agg #[Yz W (b.length+0) l,Zb]) (by simp[results,results127,go_sem,X,Y]) rfl ⟨_,rfl,?_,E.o.2⟩;rw[G.o];exact E.o.1
  .obtain rfl:ag=0:=Yv
   have q:Bx b [] 0=b++[]:=by simp[Bx,hok]
   have u:=Yw (Zn z y);have G:=Yw q;clear z y q M V r0 O U;go_wp2
   go_region_law (first
    |(refine Ay _ rfl (.tmp 19) (.tmp 21) 23 rfl (w.heap.size+2) 9 N Zc 16 underlying23 K B C D rfl d.heap.size 0 0 [] rfl (by exact u.o.2) m b.length c b rfl rfl T (by exact u.o.1) Yo Yv Yt ?_;intro F j w3 h f _ _;simp only[Nat.zero_add,List.nil_append]at h;have t:=f.size;have l1:=f.cell (a:=⟨w.heap.size,1,none⟩) (by exact a1) Yt;have Z:=f.cell (a:=⟨w.heap.size+1,0,none⟩) (by exact b0) Yt;have q1:=f.cell (a:=⟨w.heap.size+1,1,none⟩) (by exact b1) Yt;have qf:∀o,w3.frozen? ⟨w.heap.size+1,o,none⟩=false:=fun o=>(f.frozen_far ⟨w.heap.size+1,o,none⟩ Yt Yt).trans (g0 o);have n:=J.drew.grown f Yt (fun k x=>by cases x;omega);have Q:=n.size;have zA:=(h.lt F rfl).1)
    |(refine Ay _ rfl (.tmp 22) (.tmp 26) 23 rfl (w.heap.size+2) 9 N Zc 16 underlying23 K B C D rfl F b.length j b rfl h none 0 0 [] rfl rfl (fun _=>⟨rfl,rfl⟩) (fun A e=>by cases e) Yo Yv (by simp at t;omega) ?_;intro W l w4 r g _ _;have zB:=g.size;have X:=g.cell (a:=⟨w.heap.size+1,0,none⟩) Z Yt;have Y:=g.cell (a:=⟨w.heap.size+1,1,none⟩) q1 Yt;have pf:∀o,w4.frozen? ⟨w.heap.size+1,o,none⟩=false:=fun o=>(g.frozen_far ⟨w.heap.size+1,o,none⟩ (by simp at t;simp;omega) Yt).trans (qf o);have I:=n.grown g Yv (fun k x=>by cases x;omega)))
   all_goals
    have R:=Gq (L:=b++[]) I (by rw[List.length_append];exact r);have E:=Yw R;clear R h r f g u;go_wp2;refine bodyPost_ret (v:=.agg #[Yz W (b.length+0) l,Zb]) (by simp[results,results127,go_sem,X,Y]) rfl ⟨_,rfl,?_,E.o.2⟩;rw[G.o];exact E.o.1
def Ny(a b:Zi):Bool:=Op.bytesLess a.toList b.toList
def GA:Zl->Zi->Nat
 |[],_=>0
 |y::l,x=>if Ny y x=true then GA l x+1 else 0
theorem XF(l:Zl)(x:Zi):GA l x<=l.length:=by
 induction l with
 |nil=>simp[GA]
 |cons y l ih=>unfold GA;split<;>simp;omega
theorem ME{j:Nat}(h:∀i y,i<j->l[i]?=some y->Ny y x=true)(c:∀y,l[j]?=some y->Ny y x=false)(a:j<=l.length):GA l x=j:=by
 induction l generalizing j with
 |nil=>simp at a;simp[GA,a]
 |cons y l ih=>
  unfold GA;cases j with
  |zero=>rw[if_neg (by rw[c y rfl];decide)]
  |succ j=>rw[if_pos (h 0 y Yv rfl),ih (j:=j) (fun i z d b=>h (i+1) z Yv (by simpa using b)) (fun z b=>c z (by simpa using b)) (by simpa using a)]
def GB(l:Zl)(x:Zi):Zl:=if l[GA l x]?=some x then l else l.take (GA l x)++[x]++l.drop (GA l x)
def BQ(ss:Zl):Zl:=ss.foldl GB []
theorem Qg(l:Zl)(x:Zi):(GB l x).length<=l.length+1:=by
 unfold GB;split
 .omega
 .have:=XF l x;simp;omega
theorem Vm{y:Zi}(h:y∈GB l x):y∈l\/y=x:=by
 unfold GB at h;split at h
 .exact .inl h
 .simp only[List.mem_append,List.mem_singleton]at h;rcases h with(h|h)|h
  .exact .inl (List.mem_of_mem_take h)
  .exact .inr h
  .exact .inl (List.mem_of_mem_drop h)
theorem XG(b:Zl):∀a:Zl,(b.foldl GB a).length<=a.length+b.length/\∀y∈b.foldl GB a,y∈a\/y∈b:=by
 induction b with
 |nil=>intro a;exact⟨Yu,fun y c=> .inl c⟩
 |cons x b ih=>
  intro a;obtain⟨e,d⟩:=ih (GB a x);have:=Qg a x;refine⟨by simp only[List.foldl_cons,List.length_cons];omega,fun y c=> ?_⟩;rcases d y c with h|h
  .rcases Vm h with h|h
   .exact .inl h
   .exact .inr (by simp[h])
  .exact .inr (by simp[h])
theorem FK(a:Zl):(BQ a).length<=a.length:=by simpa [BQ]using (XG a []).1
theorem RY{a:Zl}{k:Nat}(h:a[k]?=some x):BQ (a.take (k+1))=GB (BQ (a.take k)) x:=by obtain⟨b,rfl⟩:=Zw h;unfold BQ;rw[Zu b,List.foldl_append];rfl
theorem IU(a:Zk)(cap:Nat)(f:Zl)(w:Zh)(hr:Ad w w.heap.size a f)(hl:f.length<=100000):
 Calls prog 123 #[.slice a f.length cap] w fun e w'=>∃g c,e=.returned (Yz g (BQ f).length c)/\
  w'.ownsRow w.heap.size 9 1 (Yz g (BQ f).length c) (BQ f).length ((BQ f).map Value.string)/\Zz w w':=by
 obtain⟨i0,J,M,N,P⟩:=info_parts Cq;have yN:=Yw hr;clear hr;have yJ:Below w.heap.size w (w.alloc (.cells #[] 9)):=Zy;have oA:(w.alloc (.cells #[] 9)).ownsRow w.heap.size 9 1 (Yz w.heap.size 0 0) 0 (([]:Zl).map Value.string):=World.ownsRow_lit w #[] 0 (Zx) Yo rfl;have yH:=Yw (Zn yJ oA);clear yJ oA;go_enter func123,ntmps123;go_wp2
 go_loopw [3,4] (fun v i wr=>∃(k g c:Nat),k<=f.length/\i=Zg k/\v=Yz g (BQ (f.take k)).length c/\Hid (wr.ownsRow w.heap.size 9 1 (Yz g (BQ (f.take k)).length c) (BQ (f.take k)).length ((BQ (f.take k)).map Value.string))/\Hid (Zz w wr)) (fun _ i _=>f.length -(intOf i).toNat)
 case atStart=>exact⟨0,w.heap.size,0,Nat.zero_le _,rfl,rfl,yH.o.2,yH.o.1⟩
 case round=>
  obtain⟨k,g,c,hk,rfl,rfl,HO,Z⟩:=hrel;by_cases hlt:k<f.length
  .have HG:Hid (f[k]?=some f[k]):=Zv hlt;obtain⟨I,oa,ha,yV,yK⟩:=(Ad.below yN.o Z.o).at hlt;subst ha;have cx:=yK k _ HG.o;have HS:=Yw (RY HG.o);have hlen:(BQ (f.take k)).length<=k:=by have:=FK (f.take k);simp at this;omega
   have yY:=Z.o.size;have zP:I<wr.heap.size:=Yv
   generalize f[k]=x at *
   generalize hO:BQ (f.take k)=O at *
   have yL:=(HO.o.lt g rfl).2;have yX:=(HO.o.lt g rfl).1;have zX:Hid (∀j y,O[j]?=some y->wr.cell? (Zd g j)=some (.string y)):=by
    intro j y B;have:=Ad.own HO.o;rcases this with h|⟨b',yZ,e1,_,h3⟩
    .subst h;simp at B
    .cases e1;simpa using h3 j y B
   clear yK;go_wp2
   go_loopw [5] (fun v yU=>∃j:Nat,j<=O.length/\v=Zg j/\(∃nq,yU=wr.drewN nq)/\Hid (∀i y,i<j->O[i]?=some y->Ny y x=true)) (fun v _=>O.length -(intOf v).toNat)
   case atStart=>exact⟨0,Nat.zero_le _,rfl,⟨0,rfl⟩,fun i y h=>by omega⟩
   case round=>
    obtain⟨j,hj,rfl,⟨nq,rfl⟩,HJ⟩:=hrel;by_cases hjl:j<O.length
    .have HY:Hid (O[j]?=some O[j]):=Zv hjl;have cy:=zX.o j _ HY.o;generalize O[j]=y at *
     have d1:decide ((j:Int)<(O.length:Int))=true:=Yt
     cases hb:Ny y x with
     |true=>
      have yQ:Op.bytesLess y.toList x.toList=true:=hb;have yM:Hid (∀i z,i<j+1->O[i]?=some z->Ny z x=true):=by
       intro i z J hz;rcases Nat.lt_or_ge i j with h|h
       .exact HJ.o i z h hz
       .obtain rfl:i=j:=Yv
        rw[HY.o]at hz;cases hz;exact hb
      clear hb;go_upto_region 6 with fail;go_quiet (fail);go_wp2;exact⟨⟨j+1,Yv,Yn,⟨_,rfl⟩,yM⟩,Ys⟩
     |false=>
      have yQ:Op.bytesLess y.toList x.toList=false:=hb;have zR:Hid (∀z,O[j]?=some z->Ny z x=false):=by intro z hz;rw[HY.o]at hz;cases hz;exact hb
      clear hb;go_upto_region 6 with fail;go_quiet (fail);by_cases hyx:y=x
      .have HE:Hid (BQ (f.take (k+1))=O):=by show _=_;rw[HS.o];unfold GB;rw[ME HJ.o zR.o hj,if_pos (by rw[HY.o,hyx])]
       subst hyx;go_upto_region 8 with fail;go_quiet (fail);go_wp2;refine⟨⟨k+1,g,c,Yv,Yn,by rw[HE.o],?_,?_⟩,Ys⟩
       .rw[HE.o];exact HO.o.kept (Al none (AZ Ae _)) (Classical.em _)
       .exact AZ Z.o _
      .have zU:Hid (¬O[j]?=some x):=by show ¬_;rw[HY.o];intro e;cases e;exact hyx rfl
       have e1:(y.toList==x.toList)=false:=by rw[beq_eq_false_iff_ne];intro h;rw[ByteArray.toList_eq,ByteArray.toList_eq]at h;exact hyx (ByteArray.ext (Array.toList_inj.1 h))
       clear hyx;go_upto_region 8 with fail;go_quiet (fail);go_upto_region 9 with fail;have HP:Hid (GA O x=j):=ME HJ.o zR.o hj;have HE:Hid (BQ (f.take (k+1))=O.take j++[x]++O.drop j):=by show _=_;rw[HS.o];unfold GB;rw[HP.o,if_neg zU.o]
       generalize hW:(((wr.drewN _).drewN _).drewN _)=W;have o:Hid (Zz wr W):=by rw[<-hW];exact AZ (AZ (AZ Ae _) _) _
       have zB:Hid (Zz w W):=Z.o.trans (o.o.mono Z.o.size);have zW:Hid (W.ownsRow w.heap.size 9 1 (Yz g O.length c) O.length (O.map Value.string)):=HO.o.kept (Al none o.o) (Classical.em _);have yT:wr.heap.size<=W.heap.size:=o.o.size;have zJ:g<W.heap.size:=Yv
       have yA:I<W.heap.size:=Yv
       have zF:W.cell? (Zd I (oa+k))=some (.string x):=(o.o.cell (p:=⟨I,oa+k,none⟩) zP).trans cx;have zC:Hid (∀i y,O[i]?=some y->W.cell? (Zd g i)=some (.string y)):=fun i y B=>(o.o.cell (p:=⟨g,i,none⟩) yL).trans (zX.o i y B);have Q:Hid (O.length<=c):=by
        rcases zW.o.2 with⟨hv,_⟩|⟨_,_,_,hv,_,_,D,_⟩
        .cases hv
        .cases hv;exact D
       have D:O.length<=c:=Q.o;have yW:¬c=j:=Yv
       clear hW cx;go_wp2_with (first
        |(at_builtin;refine wpList_append_own_at _ rfl _ _ 23 rfl w.heap.size 9 i0 Zc 1 16 underlying23 J M N P rfl Yq _ 0 [] rfl ?d0 ⟨g,0,none⟩ j c ((O.take j).map Value.string) rfl ?dl ?d1 ?d2 ?d3 ?d4 ?d5 ?_))
       case d0=>exact World.ownsRow_lit W #[] 0 Yv Yo rfl
       case dl=>first|(simp;done)|(simp;omega)
       case d1=>
        intro i u r;rw[List.getElem?_map]at r;cases d:(O.take j)[i]? with
        |none=>rw[d]at r;cases r
        |some y=>
         rw[d]at r;cases r;have B:O[i]?=some y:=by
          rw[List.getElem?_take]at d;split at d
          .exact d
          .cases d
         have:=zC.o i y B;rw[Go.WideShapes.add_plain,Nat.zero_add];exact(((Below.refl W.heap.size W).alloc (Zx) _).cell (p:=⟨g,i,none⟩) zJ).trans this
       case d2=>intro u r;obtain⟨s,_,rfl⟩:=List.mem_map.1 r;rfl
       case d3=>unfold maxLen;omega
       case d4=>omega
       case d5=>simp;omega
       intro v' V b m E zG;obtain⟨l,G,yC⟩:∃l G,v'=Yz l j G:=by
        rcases Joins.ownsRow_forms b with⟨e1,_⟩|hf
        .exact(E e1).elim
        .exact hf
       subst yC;try simp only[Nat.zero_add,List.nil_append]at b
       have q:Below W.heap.size W V:=((Below.refl W.heap.size W).alloc (Zx) _).grown m Yu (fun i J=>by simp[Value.ownBlock]at J;omega);have yS:W.heap.size<=V.heap.size:=q.size;have yO:V.cell? (Zd I (oa+k))=some (.string x):=(q.cell (p:=⟨I,oa+k,none⟩) yA).trans zF
       have yI:Hid (∀i y,O[i]?=some y->V.cell? (Zd g i)=some (.string y)):=fun i y B=>(q.cell (p:=⟨g,i,none⟩) zJ).trans (zC.o i y B);have zY:=Yw q;have zM:V.ownsRow w.heap.size 9 1 (Yz l j G) j ((O.take j).map Value.string):=by
        first|exact b|(rw[List.map_take];exact b)|(rw[List.take_length];exact b)
       have zV:=Yw zM;clear zM;have zI:=b.lt l rfl;have zS:=Yw zG;clear b m E q zF zG;try simp only[Nat.zero_add]
       go_upto_region 10 with fail;have H:Below V.heap.size V (V.alloc (.cells #[.string x] 9)):=Zy;have zO:(V.alloc (.cells #[.string x] 9)).drew.ownsRow w.heap.size 9 1 (Yz l j G) j ((O.take j).map Value.string):=zV.o.kept (Al none H.drew) (Classical.em _)
       have zN:∀A,(some ⟨V.heap.size,0,none⟩:Zk)=some A->∀i s,[x][i]?=some s->(V.alloc (.cells #[.string x] 9)).drew.cell? (A.add i)=some (.string s):=by
        intro A e i s d;injection e with e;subst e;cases i with
        |zero=>simp at d;subst d;simp[Addr.add]
        |succ i=>simp at d
       have zZ:(O.drop j).length=O.length -j:=Yu
       have yP:(O.take j).length=j:=Ym
       have yD:w.heap.size<=V.heap.size:=Yv
       have F:w.heap.size<=(V.alloc (.cells #[.string x] 9)).drew.heap.size:=Yt
       have U:w.heap.size<=l:=zI.1;have yR:g<l:=by rcases zS.o with h|h<;>simp[Value.ownBlock]at h<;>omega
       have yE:l<V.heap.size:=zI.2;have zE:∀n:Zh,(V.alloc (.cells #[.string x] 9)).drew.grownBy n (some l)->∀A,(some ⟨g,j,none⟩:Zk)=some A->∀i s,(O.drop j)[i]?=some s->n.cell? (A.add i)=some (.string s):=by intro n t A e i s d;injection e with e;subst e;rw[List.getElem?_drop]at d;have hc:=yI.o _ _ d;rw[Go.WideShapes.add_plain];refine(t.cell_far ⟨g,j+i,none⟩ Yt (fun e=>by have:=Option.some.inj e;simp at this;omega)).trans ?_;exact(H.drew.cell (p:=⟨g,j+i,none⟩) Yt).trans hc
       go_region_law (first
        |(refine Ay (V.alloc (.cells #[.string x] 9)).drew rfl (.tmp 51) (.tmp 56) 23 rfl w.heap.size 9 i0 Zc 16 underlying23 J M N P rfl l j G (O.take j) rfl zO (some ⟨V.heap.size,0,none⟩) 1 1 [x] rfl rfl (fun e=>by cases e) zN Yo Yv Yt ?_;intro k5 R n L t S X;have z5:w.heap.size<=n.heap.size:=Zm F t.size;have Y:=X)
        |(have zA:=Y;refine Ay n rfl (.tmp 57) (.tmp 60) 23 rfl w.heap.size 9 i0 Zc 16 underlying23 J M N P rfl k5 (j+1) R (O.take j++[x]) rfl L (some ⟨g,j,none⟩) (O.length -j) (c -j) (O.drop j) rfl zZ (fun e=>by cases e) (zE n t) Yo Yv z5 ?_;intro k6 C w6 zK zH T yF))
       all_goals
        have yB:w.heap.size<=k5:=(L.lt k5 rfl).1;have b5:Below w.heap.size V n:=(H.drew.mono yD).grown t F (fun i e=>by cases e;exact U);have b6:Below w.heap.size V w6:=b5.grown zH z5 (fun i e=>by cases e;exact yB);have HF:Hid (Zz w w6):=(zB.o.trans (zY.o.mono (by have:=zB.o.size;omega))).trans (b6.mono (Zx));have K:(O.take j++[x]++O.drop j).length=j+1+(O.length -j):=Ym
        have HN:Hid (w6.ownsRow w.heap.size 9 1 (Yz k6 (O.take j++[x]++O.drop j).length C) (O.take j++[x]++O.drop j).length ((O.take j++[x]++O.drop j).map Value.string)):=by rw[K];exact zK
        have zT:=Yw K;clear zK zH T L t S K zO zN zE b5 b6 H;go_wp2;refine⟨⟨k+1,k6,C,Yv,Yn,by rw[HE.o,zT.o],?_,HF.o⟩,Ys⟩;rw[HE.o];exact HN.o
    .obtain rfl:j=O.length:=Yv
     have d1:decide ((O.length:Int)<(O.length:Int))=false:=Yu
     have zR:Hid (∀z,O[O.length]?=some z->Ny z x=false):=by intro z hz;simp at hz
     have zU:Hid (¬O[O.length]?=some x):=by show ¬_;simp
     go_upto_region 6 with fail;go_quiet (fail);go_upto_region 8 with fail;go_quiet (fail);go_upto_region 9 with fail;have HP:Hid (GA O x=O.length):=ME HJ.o zR.o hj;have HE:Hid (BQ (f.take (k+1))=O.take O.length++[x]++O.drop O.length):=by show _=_;rw[HS.o];unfold GB;rw[HP.o,if_neg zU.o]
     generalize hW:(((wr.drewN _).drewN _).drewN _)=W;have o:Hid (Zz wr W):=by rw[<-hW];exact AZ (AZ (AZ Ae _) _) _
     have zB:Hid (Zz w W):=Z.o.trans (o.o.mono Z.o.size);have zW:Hid (W.ownsRow w.heap.size 9 1 (Yz g O.length c) O.length (O.map Value.string)):=HO.o.kept (Al none o.o) (Classical.em _);have yT:wr.heap.size<=W.heap.size:=o.o.size;have zJ:g<W.heap.size:=Yv
     have yA:I<W.heap.size:=Yv
     have zF:W.cell? (Zd I (oa+k))=some (.string x):=(o.o.cell (p:=⟨I,oa+k,none⟩) zP).trans cx;have zC:Hid (∀i y,O[i]?=some y->W.cell? (Zd g i)=some (.string y)):=fun i y B=>(o.o.cell (p:=⟨g,i,none⟩) yL).trans (zX.o i y B);have Q:Hid (O.length<=c):=by
      rcases zW.o.2 with⟨hv,_⟩|⟨_,_,_,hv,_,_,D,_⟩
      .cases hv
      .cases hv;exact D
     have D:O.length<=c:=Q.o;clear hW cx;go_wp2_with (first
      |(at_builtin;refine wpList_append_own_at _ rfl _ _ 23 rfl w.heap.size 9 i0 Zc 1 16 underlying23 J M N P rfl Yq _ 0 [] rfl ?d0 ⟨g,0,none⟩ O.length c ((O.take O.length).map Value.string) rfl ?dl ?d1 ?d2 ?d3 ?d4 ?d5 ?_))
     case d0=>exact World.ownsRow_lit W #[] 0 Yv Yo rfl
     case dl=>first|(simp;done)|(simp;omega)
     case d1=>
      intro i u r;rw[List.getElem?_map]at r;cases d:(O.take O.length)[i]? with
      |none=>rw[d]at r;cases r
      |some y=>
       rw[d]at r;cases r;have B:O[i]?=some y:=by
        rw[List.getElem?_take]at d;split at d
        .exact d
        .cases d
       have:=zC.o i y B;rw[Go.WideShapes.add_plain,Nat.zero_add];exact(((Below.refl W.heap.size W).alloc (Zx) _).cell (p:=⟨g,i,none⟩) zJ).trans this
     case d2=>intro u r;obtain⟨s,_,rfl⟩:=List.mem_map.1 r;rfl
     case d3=>unfold maxLen;omega
     case d4=>omega
     case d5=>simp;omega
     intro v' V b m E zG;obtain⟨l,G,yC⟩:∃l G,v'=Yz l O.length G:=by
      rcases Joins.ownsRow_forms b with⟨e1,_⟩|hf
      .exact(E e1).elim
      .exact hf
     subst yC;try simp only[Nat.zero_add,List.nil_append]at b
     have q:Below W.heap.size W V:=((Below.refl W.heap.size W).alloc (Zx) _).grown m Yu (fun i J=>by simp[Value.ownBlock]at J;omega);have yS:W.heap.size<=V.heap.size:=q.size;have yO:V.cell? (Zd I (oa+k))=some (.string x):=(q.cell (p:=⟨I,oa+k,none⟩) yA).trans zF;have yI:Hid (∀i y,O[i]?=some y->V.cell? (Zd g i)=some (.string y)):=fun i y B=>(q.cell (p:=⟨g,i,none⟩) zJ).trans (zC.o i y B)
     have zY:=Yw q;have zM:V.ownsRow w.heap.size 9 1 (Yz l O.length G) O.length ((O.take O.length).map Value.string):=by
      first|exact b|(rw[List.map_take];exact b)|(rw[List.take_length];exact b)
     have zV:=Yw zM;clear zM;have zI:=b.lt l rfl;have zS:=Yw zG;clear b m E q zF zG;try simp only[Nat.zero_add]
     go_upto_region 10 with fail;have H:Below V.heap.size V (V.alloc (.cells #[.string x] 9)):=Zy;have zO:(V.alloc (.cells #[.string x] 9)).drew.ownsRow w.heap.size 9 1 (Yz l O.length G) O.length ((O.take O.length).map Value.string):=zV.o.kept (Al none H.drew) (Classical.em _)
     have zN:∀A,(some ⟨V.heap.size,0,none⟩:Zk)=some A->∀i s,[x][i]?=some s->(V.alloc (.cells #[.string x] 9)).drew.cell? (A.add i)=some (.string s):=by
      intro A e i s d;injection e with e;subst e;cases i with
      |zero=>simp at d;subst d;simp[Addr.add]
      |succ i=>simp at d
     have zZ:(O.drop O.length).length=0:=Yu
     have yG:(if c=O.length then some ⟨g,0,none⟩else some ⟨g,O.length,none⟩:Zk)=none->(0:Nat)=0/\c -O.length=0:=by intro e;split at e<;>cases e
     have yP:(O.take O.length).length=O.length:=Ym
     have yD:w.heap.size<=V.heap.size:=Yv
     have F:w.heap.size<=(V.alloc (.cells #[.string x] 9)).drew.heap.size:=Yt
     have U:w.heap.size<=l:=zI.1;have yR:g<l:=by rcases zS.o with h|h<;>simp[Value.ownBlock]at h<;>omega
     have yE:l<V.heap.size:=zI.2;have zE:∀n:Zh,∀A,(if c=O.length then some ⟨g,0,none⟩else some ⟨g,O.length,none⟩:Zk)=some A->∀i s,(O.drop O.length)[i]?=some s->n.cell? (A.add i)=some (.string s):=by intro n A _ i s d;simp at d
     go_region_law (first
      |(refine Ay (V.alloc (.cells #[.string x] 9)).drew rfl (.tmp 51) (.tmp 56) 23 rfl w.heap.size 9 i0 Zc 16 underlying23 J M N P rfl l O.length G (O.take O.length) rfl zO (some ⟨V.heap.size,0,none⟩) 1 1 [x] rfl rfl (fun e=>by cases e) zN Yo Yv Yt ?_;intro k5 R n L t S X;have z5:w.heap.size<=n.heap.size:=Zm F t.size;have Y:=X)
      |(have zA:=Y;refine Ay n rfl (.tmp 57) (.tmp 60) 23 rfl w.heap.size 9 i0 Zc 16 underlying23 J M N P rfl k5 (O.length+1) R (O.take O.length++[x]) rfl L (if c=O.length then some ⟨g,0,none⟩else some ⟨g,O.length,none⟩) 0 (c -O.length) (O.drop O.length) rfl zZ yG (zE n) Yo Yv z5 ?_;intro k6 C w6 zK zH T yF))
     all_goals
      have yB:w.heap.size<=k5:=(L.lt k5 rfl).1;have b5:Below w.heap.size V n:=(H.drew.mono yD).grown t F (fun i e=>by cases e;exact U);have b6:Below w.heap.size V w6:=b5.grown zH z5 (fun i e=>by cases e;exact yB);have HF:Hid (Zz w w6):=(zB.o.trans (zY.o.mono (by have:=zB.o.size;omega))).trans (b6.mono (Zx));have K:(O.take O.length++[x]++O.drop O.length).length=O.length+1+0:=Ym
      have HN:Hid (w6.ownsRow w.heap.size 9 1 (Yz k6 (O.take O.length++[x]++O.drop O.length).length C) (O.take O.length++[x]++O.drop O.length).length ((O.take O.length++[x]++O.drop O.length).map Value.string)):=by rw[K];exact zK
      have zT:=Yw K;clear zK zH T L t S K zO zN zE b5 b6 H;go_wp2;refine⟨⟨k+1,k6,C,Yv,Yn,by rw[HE.o,zT.o],?_,HF.o⟩,Ys⟩;rw[HE.o];exact HN.o
  .have he:k=f.length:=Yv
   subst he;rw[List.take_length]at HO |-;go_wp2;go_ret;exact⟨_,_,rfl,HO.o,Z.o⟩
theorem NP(b:Nat)(a:Zk)(n c:Nat)(p:Int)(w:Zh)(h:AT w b a n c p)(j:0<=p)(k:p<=900000):
 Calls prog 36 #[Yy b] w fun e i=>∃d,e=.returned (Zg d)/\(1<=d/\d<=8)/\AT i b a n c (p+1)/\w.grownBy i (some b):=by
 go_enter func36,ntmps36;go_wp2_with fail;refine(Bq b a n c p 8 w h j Yv Yv Yv).mono ?_;rintro e m ⟨r,rfl,r0,l,g,f⟩;have H:=Yw (Zn g f);clear g f h;by_cases c1:r<2
 .go_wp2;go_ret;exact⟨1,rfl,Yv,H.o⟩
 .by_cases c2:r=2
  .subst c2;go_wp2;go_ret;exact⟨2,rfl,Yv,H.o⟩
  .have c3:(r==2)=false:=by simpa using c2
   go_wp2;go_ret;exact⟨8,rfl,Yv,H.o⟩
structure QV (w w':Zh) (e:Ending) (b:Nat) (a:Zk) (n c:Nat) (p K:Int) (TX RF:Nat):Prop where
 ex:∃(t:Zi) (ra:Zk) (rc:Nat) (ss:Zl),e=.returned (.agg #[.string t,.slice ra ss.length rc])/\t.size<=TX/\ss.length<=RF/\(∀s∈ss,s.size<=8)/\
  w'.ownsRow w.heap.size 9 1 (.slice ra ss.length rc) ss.length (ss.map Value.string)
 I:Hu w w' b a n c p K
theorem TM{T e:TypeId}{B b:Nat}{c:Zj}{w i:Zh}(h:Lib.IsBuilder T e B b c w)(a:Zz w i):Lib.IsBuilder T e B b c i:=by
 have g:∀p,Lib.BuilderAt T e B b p c w->Lib.BuilderAt T e B b p c i:=by rintro p ⟨m,v,f,d,l⟩;have j:b<w.heap.size:=(Array.getElem?_eq_some_iff.1 f).1;exact⟨m,v,(a.block b j).trans f,d.kept (row:=none) ⟨a.os,a.tape,a.output,a.size,fun k n _=>a.block k n⟩ (by cases hv:v.ownBlock<;>simp),l⟩
 rcases h with h|h
 .exact .inl (g _ h)
 .exact .inr (g _ h)
theorem Vn(k n m:Int)(b:0<=n)(c:n<=1000000000)(j:Nat)(a:j<4):
 Lib.byteCells ((Ck k n m).take (1+j))++[Value.int .u8 (n/2^(8 *(3 -j))%256)]=Lib.byteCells ((Ck k n m).take (1+(j+1))):=by
 rw[EN (n/2^(8 *(3 -j))%256) Yv Yv]
 match j,a with
 |0,_=>
  have:n/2^(8 *(3 -0))%256=n/16777216:=by show n/16777216%256=n/16777216;omega
  rw[this];rfl
 |1,_=>rfl
 |2,_=>rfl
 |3,_=>
  have:n/2^(8 *(3 -3))%256=n%256:=by show n/1%256=n%256;omega
  rw[this];rfl
theorem Vo(k n m:Int)(a:0<=m)(b:m<256):Lib.byteCells ((Ck k n m).take (1+4))++[Value.int .u8 m]=Lib.byteCells (Ck k n m):=by rw[EN m a b];rfl
theorem JL(k n m:Int)(j:Nat):(Lib.byteCells ((Ck k n m).take j)).length<=6:=by rw[Lib.byteCells_length];have:(Ck k n m).length=6:=rfl;simp[this];omega
theorem TN(k:Nat)(g a:Zi)(n:Int)(t:Zi)(A:Zk)(cap:Nat)(h:Zl)(P:Int)(w:Zh)(hT:It w)(h1:1<=k)(h7:k<=7)(y:Ad w w.heap.size A h)(hl:h.length<=1048576)(ht:t.size<=maxLen)(H:Cu k g a n t h P=true):
 Calls prog 10 #[.agg (Ej k g a n t A h.length cap),Zg P] w fun e w'=>e=.returned (.string ⟨(CY k g a n t h).toArray⟩)/\Zz w w':=by
 have hp:=Eh H;obtain⟨zW,zX,zO,zE,zK,zM,I⟩:=hp;have E:Below w.heap.size w (w.alloc (.cells (Ej k g a n t A h.length cap) 38)):=Zy;go_enter func10,ntmps10;go_wp2_with fail;refine(LF k g a n t A cap h P _ (hT.below E) h1 h7 (y.N E) hl ht Yo).mono ?_;rintro e b ⟨rfl,q⟩;rw[H];have hz:=q.size;simp at hz;have f:w.heap.size<b.heap.size:=Yv
 have s:=E.trans (q.mono Yu);have x0:b.cell? (Zd (w.heap.size) 0)=some (Zg k):=by rw[q.cell (p:=⟨w.heap.size,0,none⟩) Yu];simp
 have x1:b.cell? (Zd (w.heap.size) 1)=some (.string g):=by rw[q.cell (p:=⟨w.heap.size,1,none⟩) Yu];simp
 have x2:b.cell? (Zd (w.heap.size) 2)=some (.string a):=by rw[q.cell (p:=⟨w.heap.size,2,none⟩) Yu];simp
 have x3:b.cell? (Zd (w.heap.size) 3)=some (Zg n):=by rw[q.cell (p:=⟨w.heap.size,3,none⟩) Yu];simp
 have x4:b.cell? (Zd (w.heap.size) 4)=some (.string t):=by rw[q.cell (p:=⟨w.heap.size,4,none⟩) Yu];simp
 have x5:b.cell? (Zd (w.heap.size) 5)=some (.slice A h.length cap):=by rw[q.cell (p:=⟨w.heap.size,5,none⟩) Yu];simp
 have J:=y.below s;have zG:=Yw H;clear H I y q E;have u:=Lib.fresh_isBuilder 86 5 b;have X:Below b.heap.size b (b.alloc (.cells #[.pointer none,Zb] 86)):=Zy;go_wp2_with fail;refine(Fl b.heap.size b.heap.size [] _ _ u Yu Yu).mono ?_;rintro e w2 ⟨rfl,v,V⟩;have Y:=X.trans V;have zA:[]++[Value.int .u8 (k:Int)]=Lib.byteCells ((Ck k n a.size).take 1):=by rw[EN k Yv Yv];rfl
 rw[zA]at v;clear u X V zA;go_wp2
 go_loopw [15] (fun i wr=>∃(j:Nat),j<=4/\i=Zg j/\Lib.IsBuilder 86 5 b.heap.size b.heap.size (Lib.byteCells ((Ck k n a.size).take (1+j))) wr/\Zz b wr) (fun i _=>4 -(intOf i).toNat)
 case atStart=>exact⟨0,Nat.zero_le _,rfl,v,Y⟩
 case round=>
  clear v Y;obtain⟨j,hj,rfl,u,d⟩:=hrel;have zC:=d.size;have y0:wr.cell? (Zd (w.heap.size) 0)=some (Zg k):=(d.cell (p:=⟨w.heap.size,0,none⟩) f).trans x0;have Q:wr.cell? (Zd (w.heap.size) 1)=some (.string g):=(d.cell (p:=⟨w.heap.size,1,none⟩) f).trans x1;have y2:wr.cell? (Zd (w.heap.size) 2)=some (.string a):=(d.cell (p:=⟨w.heap.size,2,none⟩) f).trans x2
  have y3:wr.cell? (Zd (w.heap.size) 3)=some (Zg n):=(d.cell (p:=⟨w.heap.size,3,none⟩) f).trans x3;by_cases hlt:j<4
  .have zB:=JL k n a.size (1+j);have zN:=Yw (Vn k n a.size zK zM j hlt);go_wp2_with fail;refine(Fl b.heap.size b.heap.size _ _ _ u Yv zC).mono ?_;rintro e w3 ⟨rfl,o,z⟩;rw[zN.o]at o;have F:=d.trans z;clear u d z y0 Q y2 y3;go_wp2;exact⟨⟨j+1,Yv,Yn,o,F⟩,Ys⟩
  .obtain rfl:j=4:=Yv
   have zB:=JL k n a.size (1+4);go_wp2_with fail;refine(Fl b.heap.size b.heap.size _ _ _ u Yv zC).mono ?_;rintro e w3 ⟨rfl,o,z⟩;rw[Vo k n a.size Yv Yv]at o;have l:=d.trans z;have S:=l.size;have y2:w3.cell? (Zd (w.heap.size) 2)=some (.string a):=(l.cell (p:=⟨w.heap.size,2,none⟩) f).trans x2;clear u d z y0 Q y3 zB;have G:(Lib.byteCells (Ck k n a.size)).length=6:=rfl
   go_wp2_with fail;refine(Ds b.heap.size b.heap.size _ a _ o Yv S).mono ?_;rintro e w4 ⟨rfl,x,F⟩;rw[<-Lib.byteCells_append]at x;have m:=l.trans F;have T:=m.size;have Q:w4.cell? (Zd (w.heap.size) 1)=some (.string g):=(m.cell (p:=⟨w.heap.size,1,none⟩) f).trans x1;clear o l F y2 G;have G:(Lib.byteCells (Ck k n a.size++a.data.toList)).length=6+a.size:=by rw[Lib.byteCells_length];simp[Ck];omega
   go_wp2_with fail;refine(Ds b.heap.size b.heap.size _ g _ x Yv T).mono ?_;rintro e O ⟨rfl,r,W⟩;rw[<-Lib.byteCells_append]at r;have c:=m.trans W;have D:=c.size;have y0:O.cell? (Zd (w.heap.size) 0)=some (Zg k):=(c.cell (p:=⟨w.heap.size,0,none⟩) f).trans x0;have y4:O.cell? (Zd (w.heap.size) 4)=some (.string t):=(c.cell (p:=⟨w.heap.size,4,none⟩) f).trans x4
   have y5:O.cell? (Zd (w.heap.size) 5)=some (.slice A h.length cap):=(c.cell (p:=⟨w.heap.size,5,none⟩) f).trans x5;have K:=J.below (c.mono Yv);have zP:=s.trans (c.mono s.size);clear x m W Q G;have G:(Lib.byteCells (Ck k n a.size++a.data.toList++g.data.toList)).length=6+a.size+g.size:=by rw[Lib.byteCells_length];simp[Ck];omega
   by_cases hk1:k=1
   .subst hk1;have I:=(Eh zG.o).dt rfl;have N:=Be I;have zR:=N.bk;have zV:=N.J;have zU:=N.B;go_wp2_with fail;refine(MY t A cap h P O (K.mono Yv) I).mono ?_;rintro e w6 ⟨rfl,L⟩;have R:=TM r L;have zY:=L.size;have zS:(BG t h).length<=3000:=by have:=Dx h;simp[BG,this];omega
    have Z:(ByteArray.mk (BG t h).toArray).size=(BG t h).length:=by simp[ByteArray.size]
    have zF:=Yw Z;clear Z;go_wp2_with fail;refine(Ds b.heap.size b.heap.size _ _ _ R (by rw[zF.o];omega) Yv).mono ?_;rintro e w7 ⟨rfl,C,zH⟩;have zI:Lib.byteCells (Ck (1:Nat) n a.size++a.data.toList++g.data.toList)++Lib.byteCells (ByteArray.mk (BG t h).toArray).data.toList=Lib.byteCells (CY 1 g a n t h):=by rw[<-Lib.byteCells_append];rfl
    rw[zI]at C;have B:=(c.trans (L.mono D)).trans zH;have U:=B.size;go_wp2_with fail;refine(Tryz.Builder_String_any b.heap.size b.heap.size _ _ C U).mono ?_;rintro e w8 ⟨rfl,M⟩;go_wp2;go_ret;exact⟨rfl,s.trans ((B.trans M).mono s.size)⟩
   .have zT:((k:Int)==1)=false:=beq_eq_false_iff_ne.2 Yv;have zJ:Ck k n a.size++a.data.toList++g.data.toList=CY k g a n t h:=by unfold CY;rw[if_neg hk1,List.append_nil]
    rw[zJ]at r;go_wp2_with fail;refine(Tryz.Builder_String_any b.heap.size b.heap.size _ _ r D).mono ?_;rintro e w8 ⟨rfl,M⟩;go_wp2;go_ret;exact⟨rfl,s.trans ((c.trans M).mono s.size)⟩
theorem ZH(k:Int)(b a:Zi)(n:Int)(t:Zi)(h:Zk)(cap:Nat)(c:Zl)(f:Int)(w:Zh)(j:It w)(g:Ad w w.heap.size h c)(l:c.length<=1048576)(o:t.size<=maxLen)(r:a.size<=maxLen):
 Calls prog 10 #[.agg (Ej k b a n t h c.length cap),Zg f] w fun e s=>e=.returned (.string (Ch k b a n t c f))/\Zz w s:=by
 cases hok:Bw k b a n t c f with
 |true=>rw[show Ch k b a n t c f=⟨(CY k.toNat b a n t c).toArray⟩from by unfold Ch;rw[if_pos hok]];unfold Bw at hok;simp only[Bool.and_eq_true,decide_eq_true_eq]at hok;obtain⟨m,rfl⟩:∃m:Nat,k=m:=⟨k.toNat,Yv⟩;rw[Int.toNat_natCast]at hok |-;exact TN m b a n t h cap c f w j Yv Yv g l o hok.2
 |false=>rw[show Ch k b a n t c f=ByteArray.empty from by unfold Ch;rw[if_neg (by rw[hok];decide)]];have i:Below w.heap.size w (w.alloc (.cells (Ej k b a n t h c.length cap) 38)):=Zy;have d:=UF k b a n t h cap c f _ (j.below i) (g.N i) l o r;rw[hok]at d;clear hok;go_enter func10,ntmps10;go_wp2_with fail;refine d.mono ?_;rintro e u ⟨rfl,q⟩;go_wp2;go_ret;exact⟨rfl,i.trans (q.mono Yu)⟩
end Go.Proofs.YtoglnpagihdhpaaGreatDoor
