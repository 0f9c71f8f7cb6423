import Derived.Test.YtmjlkgpekcnacaaGreatX19
import Derived.Test.YtmjlkgpekcnacaaGreatX22
import Derived.Deep.CutBlock
set_option maxRecDepth 100000
set_option maxHeartbeats 16000000
namespace Go.Proofs.YtmjlkgpekcnacaaGreat
open Go.ChangeShapes Go.WideShapes Go.ChangeAt Go.RowKit _root_.Go.Proofs.Tryz
variable{i c b:Int}{a:Zj}{e f:Zl}{v:Vd}{n m q:Nat}{u:UR}{w W X Y:Zh}{V:List Nat}
theorem Sc(t:Zk)(n:Addr)(c d:Nat)(f b:Zl)(af:Int)(h0:0<=af)(w:Zh)(V:Ab w w.heap.size t f)(K:Ab w w.heap.size (some n) b)(zA:t=none->f.length=0/\c=0)(hl:f.length<=1048576)(zE:b.length<=1048576)(hs:∀s∈f,s.size<=1048576)(T:∀s∈b,s.size<=1048576)(hd:b.length<=d):
 Calls prog 116 #[.agg #[.slice t f.length c,.slice (some n) b.length d],Zg af] w fun e w'=>∃v,e=.returned (.agg #[v,Zb])/\
  w'.ownsRow w.heap.size 9 1 v (BE f b af).length ((BE f b af).map Value.string)/\Zz w w':=by
 obtain⟨W,U,G,H,I⟩:=info_parts BW;have S:Below w.heap.size w ((w.alloc (.cells #[.slice t f.length c,.slice (some n) b.length d] 76)).alloc (.cells #[Zb,Zb] 76)):=(Zy).alloc Yu _;go_enter func116,ntmps116;go_wp2_with fail;refine(DJ _ _ c d f b _ _ (Zx) (V.M S) (K.M S) hl zE hs T).mono ?_;rintro e g ⟨rfl,l⟩;have O:=S.trans (l.mono Yt);have Y:=l.size;simp at Y
 have c0:g.cell? (Zd (w.heap.size) 0)=some (.slice t f.length c):=by rw[l.cell (p:=⟨w.heap.size,0,none⟩) Yt];simp
 have c1:g.cell? (Zd (w.heap.size) 1)=some (.slice (some n) b.length d):=by rw[l.cell (p:=⟨w.heap.size,1,none⟩) Yt];simp
 have r0:g.cell? (Zd (w.heap.size+1) 0)=some Zb:=by rw[l.cell (p:=⟨w.heap.size+1,0,none⟩) Yu];simp
 have X:g.cell? (Zd (w.heap.size+1) 1)=some Zb:=by rw[l.cell (p:=⟨w.heap.size+1,1,none⟩) Yu];simp
 have f0:∀o,g.frozen? ⟨w.heap.size+1,o,none⟩=false:=fun o=>by rw[l.frozen (p:=⟨w.heap.size+1,o,none⟩) Yu];simp[go_sem]
 clear l;cases hok:Dm f b with
 |false=>
  go_wp2;refine bodyPost_ret (v:=.agg #[Zb,Zb]) (by simp[results,results116,go_sem,r0,X]) rfl ⟨Zb,rfl,?_,?_⟩
  .simp only[BE,hok];exact World.ownsRow_nil _ _ _ _
  .exact(O.setCell (p:=⟨w.heap.size+1,0,none⟩) Yu _).setCell (p:=⟨w.heap.size+1,1,none⟩) Yu _
 |true=>
  have Q:Below w.heap.size w (g.alloc (.cells #[] 9)):=O.alloc O.size _;have a0:(g.alloc (.cells #[] 9)).cell? (Zd (w.heap.size) 0)=some (.slice t f.length c):=by rw[((Below.refl g.heap.size g).alloc (Zx) _).cell (p:=⟨w.heap.size,0,none⟩) Yt];exact c0
  have a1:(g.alloc (.cells #[] 9)).cell? (Zd (w.heap.size) 1)=some (.slice (some n) b.length d):=by rw[((Below.refl g.heap.size g).alloc (Zx) _).cell (p:=⟨w.heap.size,1,none⟩) Yt];exact c1
  have b0:(g.alloc (.cells #[] 9)).cell? (Zd (w.heap.size+1) 0)=some Zb:=by rw[((Below.refl g.heap.size g).alloc (Zx) _).cell (p:=⟨w.heap.size+1,0,none⟩) Yt];exact r0
  have b1:(g.alloc (.cells #[] 9)).cell? (Zd (w.heap.size+1) 1)=some Zb:=by rw[((Below.refl g.heap.size g).alloc (Zx) _).cell (p:=⟨w.heap.size+1,1,none⟩) Yt];exact X
  have g0:∀o,(g.alloc (.cells #[] 9)).frozen? ⟨w.heap.size+1,o,none⟩=false:=fun o=>by rw[((Below.refl g.heap.size g).alloc (Zx) _).frozen (p:=⟨w.heap.size+1,o,none⟩) Yt];exact f0 o
  have F:=(V.below Q).bh;have E:(g.alloc (.cells #[] 9)).ownsRow (w.heap.size+2) 9 1 (Yz g.heap.size 0 0) 0 (([]:Zl).map Value.string):=World.ownsRow_lit g #[] 0 Yv Yp rfl;by_cases h1:(b.length:Int)<af
  .have zC:¬af<0:=Yv
   have y:BE f b af=f++b.take (b.length):=by simp only[BE,hok,if_true];rw[show(min (max af 0) (b.length:Int)).toNat=b.length from by omega]
   have x:(b.take (b.length)).length=b.length:=by rw[List.length_take];omega
   have A:Ab w w.heap.size (some n) (b.take (b.length)):=K.take (b.length);have C:=Yw (Zn F E);have N:=Yw y;have u:=Yw x;clear F E y x V K hs T r0 X f0;go_wp2
   go_region_law (first
    |(refine Av _ rfl (.tmp 19) (.tmp 21) 29 rfl (w.heap.size+2) 9 W Zc 16 underlying29 U G H I rfl g.heap.size 0 0 [] rfl (by exact C.o.2) t f.length c f rfl rfl zA (by exact C.o.1) Yp Yv Yt ?_;intro M q w3 j h _ _;simp only[Nat.zero_add,List.nil_append]at j;have B:=h.size;have l1:=h.cell (a:=⟨w.heap.size,1,none⟩) (by exact a1) Yt;have q0:=h.cell (a:=⟨w.heap.size+1,0,none⟩) (by exact b0) Yt;have q1:=h.cell (a:=⟨w.heap.size+1,1,none⟩) (by exact b1) Yt;have qf:∀o,w3.frozen? ⟨w.heap.size+1,o,none⟩=false:=fun o=>(h.frozen_far ⟨w.heap.size+1,o,none⟩ Yt Yt).trans (g0 o);have m:=Q.drew.grown h Yt (fun k D=>by cases D;omega);have Z:=m.size;have zB:=(j.lt M rfl).1)
    |(refine Av _ rfl (.tmp 22) (.tmp 26) 29 rfl (w.heap.size+2) 9 W Zc 16 underlying29 U G H I rfl M f.length q f rfl j (some n) (b.length) d (b.take (b.length)) rfl u.o (fun e=>by cases e) (A.below m).bh Yp Yv (by simp at B;omega) ?_;intro k4 r w4 z i _ _;have zF:=i.size;have p0:=i.cell (a:=⟨w.heap.size+1,0,none⟩) q0 Yt;have p1:=i.cell (a:=⟨w.heap.size+1,1,none⟩) q1 Yt;have pf:∀o,w4.frozen? ⟨w.heap.size+1,o,none⟩=false:=fun o=>(i.frozen_far ⟨w.heap.size+1,o,none⟩ (by simp at B;simp;omega) Yt).trans (qf o);have P:=m.grown i Yv (fun k D=>by cases D;omega)))
   all_goals
    have R:=FN (L:=f++b.take (b.length)) P (by rw[List.length_append,u.o];exact z);have J:=Yw R;clear R j z h i A C;go_wp2;refine bodyPost_ret (v:=.agg #[Yz k4 (f.length+(b.length)) r,Zb]) (by simp[results,results116,go_sem,p0,p1]) rfl ⟨_,rfl,?_,J.o.2⟩;rw[N.o];exact J.o.1
  .have zC:0<=af:=Yv
   have zG:af<=b.length:=Yv
   have zH:af.toNat<=b.length:=Yv
   have zB:af<=d:=Yv
   have y:BE f b af=f++b.take (af.toNat):=by simp only[BE,hok,if_true];rw[show(min (max af 0) (b.length:Int)).toNat=af.toNat from by omega]
   have x:(b.take (af.toNat)).length=af.toNat:=by rw[List.length_take];omega
   have A:Ab w w.heap.size (some n) (b.take (af.toNat)):=K.take (af.toNat);have C:=Yw (Zn F E);have N:=Yw y;have u:=Yw x;clear F E y x V K hs T r0 X f0;go_wp2
   go_region_law (first
    |(refine Av _ rfl (.tmp 19) (.tmp 21) 29 rfl (w.heap.size+2) 9 W Zc 16 underlying29 U G H I rfl g.heap.size 0 0 [] rfl (by exact C.o.2) t f.length c f rfl rfl zA (by exact C.o.1) Yp Yv Yt ?_;intro M q w3 j h _ _;simp only[Nat.zero_add,List.nil_append]at j;have B:=h.size;have l1:=h.cell (a:=⟨w.heap.size,1,none⟩) (by exact a1) Yt;have q0:=h.cell (a:=⟨w.heap.size+1,0,none⟩) (by exact b0) Yt;have q1:=h.cell (a:=⟨w.heap.size+1,1,none⟩) (by exact b1) Yt;have qf:∀o,w3.frozen? ⟨w.heap.size+1,o,none⟩=false:=fun o=>(h.frozen_far ⟨w.heap.size+1,o,none⟩ Yt Yt).trans (g0 o);have m:=Q.drew.grown h Yt (fun k D=>by cases D;omega);have Z:=m.size;have zB:=(j.lt M rfl).1)
    |(refine Av _ rfl (.tmp 22) (.tmp 26) 29 rfl (w.heap.size+2) 9 W Zc 16 underlying29 U G H I rfl M f.length q f rfl j (some n) (af.toNat) d (b.take (af.toNat)) rfl u.o (fun e=>by cases e) (A.below m).bh Yp Yv (by simp at B;omega) ?_;intro k4 r w4 z i _ _;have zF:=i.size;have p0:=i.cell (a:=⟨w.heap.size+1,0,none⟩) q0 Yt;have p1:=i.cell (a:=⟨w.heap.size+1,1,none⟩) q1 Yt;have pf:∀o,w4.frozen? ⟨w.heap.size+1,o,none⟩=false:=fun o=>(i.frozen_far ⟨w.heap.size+1,o,none⟩ (by simp at B;simp;omega) Yt).trans (qf o);have P:=m.grown i Yv (fun k D=>by cases D;omega)))
   all_goals
    have R:=FN (L:=f++b.take (af.toNat)) P (by rw[List.length_append,u.o];exact z);have J:=Yw R;clear R j z h i A C;go_wp2;refine bodyPost_ret (v:=.agg #[Yz k4 (f.length+(af.toNat)) r,Zb]) (by simp[results,results116,go_sem,p0,p1]) rfl ⟨_,rfl,?_,J.o.2⟩;rw[N.o];exact J.o.1
theorem Sd(m:Zk)(c:Nat)(b:Zl)(af:Int)(h0:0<=af)(w:Zh)(M:Ab w w.heap.size m b)(T:m=none->b.length=0/\c=0)(hl:b.length<=1048576)(V:∀s∈b,s.size<=1048576):
 Calls prog 116 #[.agg #[.slice m b.length c,Zb],Zg af] w fun e w'=>∃v,e=.returned (.agg #[v,Zb])/\
  w'.ownsRow w.heap.size 9 1 v (BE b [] af).length ((BE b [] af).map Value.string)/\Zz w w':=by
 obtain⟨N,K,B,C,D⟩:=info_parts BW;have S:Below w.heap.size w ((w.alloc (.cells #[.slice m b.length c,Zb] 76)).alloc (.cells #[Zb,Zb] 76)):=(Zy).alloc Yu _;go_enter func116,ntmps116;go_wp2_with fail;refine(DJ _ none c 0 b [] _ _ (Zx) (M.M S) (.inl rfl) hl Yu V Yu).mono ?_;rintro e d ⟨rfl,i⟩;have H:=S.trans (i.mono Yt);have P:=i.size;simp at P
 have c0:d.cell? (Zd (w.heap.size) 0)=some (.slice m b.length c):=by rw[i.cell (p:=⟨w.heap.size,0,none⟩) Yt];simp
 have c1:d.cell? (Zd (w.heap.size) 1)=some Zb:=by rw[i.cell (p:=⟨w.heap.size,1,none⟩) Yt];simp
 have r0:d.cell? (Zd (w.heap.size+1) 0)=some Zb:=by rw[i.cell (p:=⟨w.heap.size+1,0,none⟩) Yu];simp
 have O:d.cell? (Zd (w.heap.size+1) 1)=some Zb:=by rw[i.cell (p:=⟨w.heap.size+1,1,none⟩) Yu];simp
 have U:∀o,d.frozen? ⟨w.heap.size+1,o,none⟩=false:=fun o=>by rw[i.frozen (p:=⟨w.heap.size+1,o,none⟩) Yu];simp[go_sem]
 clear i;cases hok:Dm b []with
 |false=>
  go_wp2;refine bodyPost_ret (v:=.agg #[Zb,Zb]) (by simp[results,results116,go_sem,r0,O]) rfl ⟨Zb,rfl,?_,?_⟩
  .simp only[BE,hok];exact World.ownsRow_nil _ _ _ _
  .exact(H.setCell (p:=⟨w.heap.size+1,0,none⟩) Yu _).setCell (p:=⟨w.heap.size+1,1,none⟩) Yu _
 |true=>
  have J:Below w.heap.size w (d.alloc (.cells #[] 9)):=H.alloc H.size _;have a0:(d.alloc (.cells #[] 9)).cell? (Zd (w.heap.size) 0)=some (.slice m b.length c):=by rw[((Below.refl d.heap.size d).alloc (Zx) _).cell (p:=⟨w.heap.size,0,none⟩) Yt];exact c0
  have a1:(d.alloc (.cells #[] 9)).cell? (Zd (w.heap.size) 1)=some Zb:=by rw[((Below.refl d.heap.size d).alloc (Zx) _).cell (p:=⟨w.heap.size,1,none⟩) Yt];exact c1
  have b0:(d.alloc (.cells #[] 9)).cell? (Zd (w.heap.size+1) 0)=some Zb:=by rw[((Below.refl d.heap.size d).alloc (Zx) _).cell (p:=⟨w.heap.size+1,0,none⟩) Yt];exact r0
  have b1:(d.alloc (.cells #[] 9)).cell? (Zd (w.heap.size+1) 1)=some Zb:=by rw[((Below.refl d.heap.size d).alloc (Zx) _).cell (p:=⟨w.heap.size+1,1,none⟩) Yt];exact O
  have g0:∀o,(d.alloc (.cells #[] 9)).frozen? ⟨w.heap.size+1,o,none⟩=false:=fun o=>by rw[((Below.refl d.heap.size d).alloc (Zx) _).frozen (p:=⟨w.heap.size+1,o,none⟩) Yt];exact U o
  have z:=(M.below J).bh;have y:(d.alloc (.cells #[] 9)).ownsRow (w.heap.size+2) 9 1 (Yz d.heap.size 0 0) 0 (([]:Zl).map Value.string):=World.ownsRow_lit d #[] 0 Yv Yp rfl;by_cases h1:(0:Int)<af
  .have zC:¬af<0:=Yv
   have q:BE b [] af=b++[]:=by simp[BE,hok]
   have u:=Yw (Zn z y);have G:=Yw q;clear z y q M V r0 O U;go_wp2
   go_region_law (first
    |(refine Av _ rfl (.tmp 19) (.tmp 21) 29 rfl (w.heap.size+2) 9 N Zc 16 underlying29 K B C D rfl d.heap.size 0 0 [] rfl (by exact u.o.2) m b.length c b rfl rfl T (by exact u.o.1) Yp Yv Yt ?_;intro F j w3 h f _ _;simp only[Nat.zero_add,List.nil_append]at h;have t:=f.size;have l1:=f.cell (a:=⟨w.heap.size,1,none⟩) (by exact a1) Yt;have Z:=f.cell (a:=⟨w.heap.size+1,0,none⟩) (by exact b0) Yt;have q1:=f.cell (a:=⟨w.heap.size+1,1,none⟩) (by exact b1) Yt;have qf:∀o,w3.frozen? ⟨w.heap.size+1,o,none⟩=false:=fun o=>(f.frozen_far ⟨w.heap.size+1,o,none⟩ Yt Yt).trans (g0 o);have n:=J.drew.grown f Yt (fun k x=>by cases x;omega);have Q:=n.size;have zA:=(h.lt F rfl).1)
    |(refine Av _ rfl (.tmp 22) (.tmp 26) 29 rfl (w.heap.size+2) 9 N Zc 16 underlying29 K B C D rfl F b.length j b rfl h none 0 0 [] rfl rfl (fun _=>⟨rfl,rfl⟩) (fun A e=>by cases e) Yp Yv (by simp at t;omega) ?_;intro W l w4 r g _ _;have zB:=g.size;have X:=g.cell (a:=⟨w.heap.size+1,0,none⟩) Z Yt;have Y:=g.cell (a:=⟨w.heap.size+1,1,none⟩) q1 Yt;have pf:∀o,w4.frozen? ⟨w.heap.size+1,o,none⟩=false:=fun o=>(g.frozen_far ⟨w.heap.size+1,o,none⟩ (by simp at t;simp;omega) Yt).trans (qf o);have I:=n.grown g Yv (fun k x=>by cases x;omega)))
   all_goals
    have R:=FN (L:=b++[]) I (by rw[List.length_append];exact r);have E:=Yw R;clear R h r f g u;go_wp2;refine bodyPost_ret (v:=.agg #[Yz W (b.length+0) l,Zb]) (by simp[results,results116,go_sem,X,Y]) rfl ⟨_,rfl,?_,E.o.2⟩;rw[G.o];exact E.o.1
  .obtain rfl:af=0:=Yv
   have q:BE b [] 0=b++[]:=by simp[BE,hok]
   have u:=Yw (Zn z y);have G:=Yw q;clear z y q M V r0 O U;go_wp2
   go_region_law (first
    |(refine Av _ rfl (.tmp 19) (.tmp 21) 29 rfl (w.heap.size+2) 9 N Zc 16 underlying29 K B C D rfl d.heap.size 0 0 [] rfl (by exact u.o.2) m b.length c b rfl rfl T (by exact u.o.1) Yp Yv Yt ?_;intro F j w3 h f _ _;simp only[Nat.zero_add,List.nil_append]at h;have t:=f.size;have l1:=f.cell (a:=⟨w.heap.size,1,none⟩) (by exact a1) Yt;have Z:=f.cell (a:=⟨w.heap.size+1,0,none⟩) (by exact b0) Yt;have q1:=f.cell (a:=⟨w.heap.size+1,1,none⟩) (by exact b1) Yt;have qf:∀o,w3.frozen? ⟨w.heap.size+1,o,none⟩=false:=fun o=>(f.frozen_far ⟨w.heap.size+1,o,none⟩ Yt Yt).trans (g0 o);have n:=J.drew.grown f Yt (fun k x=>by cases x;omega);have Q:=n.size;have zA:=(h.lt F rfl).1)
    |(refine Av _ rfl (.tmp 22) (.tmp 26) 29 rfl (w.heap.size+2) 9 N Zc 16 underlying29 K B C D rfl F b.length j b rfl h none 0 0 [] rfl rfl (fun _=>⟨rfl,rfl⟩) (fun A e=>by cases e) Yp Yv (by simp at t;omega) ?_;intro W l w4 r g _ _;have zB:=g.size;have X:=g.cell (a:=⟨w.heap.size+1,0,none⟩) Z Yt;have Y:=g.cell (a:=⟨w.heap.size+1,1,none⟩) q1 Yt;have pf:∀o,w4.frozen? ⟨w.heap.size+1,o,none⟩=false:=fun o=>(g.frozen_far ⟨w.heap.size+1,o,none⟩ (by simp at t;simp;omega) Yt).trans (qf o);have I:=n.grown g Yv (fun k x=>by cases x;omega)))
   all_goals
    have R:=FN (L:=b++[]) I (by rw[List.length_append];exact r);have E:=Yw R;clear R h r f g u;go_wp2;refine bodyPost_ret (v:=.agg #[Yz W (b.length+0) l,Zb]) (by simp[results,results116,go_sem,X,Y]) rfl ⟨_,rfl,?_,E.o.2⟩;rw[G.o];exact E.o.1
theorem JT:NV v0:=⟨Le,(fun k a=>by cases a),JQ⟩
theorem FM.ik{a:Int}(h:FM i a e f c v):∀k∈v.ks,Ht k:=by
 rcases h with⟨_,_,rfl⟩|⟨g,⟨_,_,rfl⟩|⟨r,d,_,rfl⟩⟩
 .exact JT.sm
 .exact JT.sm
 .exact RU (d.tok (by intro k b;cases b))
theorem FM.ij(h:FM i b e f c v):Gy v.ks v.ps v.ls:=by
 rcases h with⟨_,_,rfl⟩|⟨g,⟨_,_,rfl⟩|⟨r,a,_,rfl⟩⟩
 .exact JQ
 .exact JQ
 .exact RQ (a.ok (Ff g.1.1 g.1.2)) (a.rx (Ff g.1.1 g.1.2) ⟨by simp[r0],by simp[r0],by simp[r0],by simp[r0],by simp[r0]⟩) (a.pn (by intro p d;cases d)) g.1.2
theorem Gy.sub{d c:List Kd}{f:List Pd}{e:List Ld}(h:Gy d f e)(b:c.Sublist d):Gy c f e:=
 ⟨⟨Zm b.length_le h.k.len,fun k a=>h.k.sum k (b.subset a),fun k a=>h.k.E k (b.subset a),fun k a=>h.k.B k (b.subset a),fun k a=>h.k.ref k (b.subset a)⟩,h.p,h.l,fun k a=>h.b k (b.subset a),Zm b.length_le h.n.1,h.n.2⟩
theorem ClTo.sub{e:List Pd}{d:List Ld}{free c:Nat}{o:Option (UR×Nat)}(h:ClTo b e d free c n u o):∀p∈o,p.1.ks.Sublist u.ks:=by
 induction h with
 |fin n u h=>intro p a;cases a;exact List.Sublist.refl _
 |old n u h hr=>intro p a;cases a
 |full n u r h hr ht hd hf=>intro p a;cases a;exact List.Sublist.refl _
 |long n u r h hr ht hl=>intro p a;cases a
 |step n u r o h hr ht hq hm hf hs ih=>exact fun p a=>(ih p a).trans ht.sub
theorem Es.ik{a:Int}(h:Es v a (some (u,n)))(c:∀k∈v.ks,Ht k):∀k∈(Ba v u).ks,Ht k:=by
 rcases h with⟨_,h⟩|⟨r,d,_,h⟩
 .cases h
 exact fun k b=>c k ((h.sub _ rfl).subset b)
theorem Es.ij{a:Int}(h:Es v a (some (u,n)))(b:Gy v.ks v.ps v.ls):Gy (Ba v u).ks (Ba v u).ps (Ba v u).ls:=by
 rcases h with⟨_,h⟩|⟨r,c,_,h⟩
 .cases h
 exact b.sub (h.sub _ rfl)
def WC(w:Zh)(o:Ending)(w':Zh):Prop:=∃vs,o=.returned (.agg vs.toArray)/\RV w.heap.size w' vs/\Zz w w'
theorem Se(A:Zj)(w:Zh)(s:RV m w A):Calls prog 97 #[.agg A.toArray] w (WC w):=by
 obtain⟨v,a,⟨b,h,i⟩,rfl,c,d⟩:=s.D;refine(QB v _ _ _ _ _ (BE v.ss v.A v.A.length) w rfl (fun Y f=>DS v a Y (c.M f) d.cap b) ?_ (fun _ Y f=>UZ a.Z a.X _ _ v.ss v.A Y (c.M f).s (c.M f).t d.s.2 d.t.2 b.s b.t b.ss b.A)).mono ?_
 .intro q Y f;refine(Fh v a Y ((d.cp c b q).below f)).mono ?_;rintro e x ⟨S,U,T,P,L,Q,M,g,rfl,j,_,l⟩;exact⟨S,U,T,P,L,Q,M,g,rfl,j,l⟩
 .rintro e t ⟨u,S,U,T,P,L,Q,M,g,r,rfl,n,o⟩;refine⟨_,rfl,n.rv ?_,o⟩;rcases r with⟨_,rfl⟩|⟨_,rfl⟩
  .exact JT
  .obtain⟨c,d⟩:=Lf (k:=v.A.length) b.ss b.A;exact⟨⟨c,by simp[NZ],d,by simp[NZ],b.N,b.r,b.rn⟩,h,i⟩
theorem TJ(m i:Int)(a b:Zk)(c d:Nat)(g h:Zl)(w:Zh)(t:Ab w w.heap.size a g)(s:Ab w w.heap.size b h)(q:a=none->g.length=0/\c=0)(r:b=none->h.length=0/\d=0)(f:VE g h):
 Calls prog 60 #[Zg m,Zg i,.agg #[.slice a g.length c,.slice b h.length d]] w fun e k=>∃c l,e=.returned (.tuple #[.agg l.toArray,Zg c])/\RV w.heap.size k l/\Zz w k:=by
 refine(MN m i a b c d g h w t s q r f.s f.t f.ss f.A).mono ?_;rintro e k ⟨c,u,S,U,T,P,L,Q,M,v,j,rfl,n,o⟩;exact⟨c,Bh u S U T P L Q M,rfl,n.rv ⟨j.fit f,j.ik,j.ij⟩,o⟩
theorem TK(A:Zj)(k:Int)(w:Zh)(G:RV m w A)(s:0<=k):Calls prog 98 #[.agg A.toArray,Zg k] w (WC w):=by
 obtain⟨v,a,⟨b,H,I⟩,rfl,q,f⟩:=G.D;obtain⟨l,o⟩:=Lf (k:=k) b.ss b.A;refine(RY v _ _ _ k (BE v.ss v.A k) NV w rfl (fun Y g=>DS v a Y (q.M g) f.cap b) (fun _ Y g=> ?_) (fun _ Y u n g d=> ?_)).mono ?_
 .have i:=q.M g;rcases hta:a.X with _|A
  .obtain⟨j,x⟩:=f.t.2 hta;have y:=List.eq_nil_of_length_eq_zero j;rw[j,x,y];exact Sd a.Z _ v.ss k s Y i.s f.s.2 b.s b.ss
  .have r:=i.t;rw[hta]at r;exact Sc a.Z A _ _ v.ss v.A k s Y i.s r f.s.2 b.s b.t b.ss b.A f.t.1
 .obtain⟨a,c,rfl,F,E⟩:=UO d;refine(MN v.wd v.lim a none c 0 (BE v.ss v.A k) [] Y F (.inl rfl) E (fun _=>⟨rfl,rfl⟩) l Yu o Yu).mono ?_;rintro e K ⟨c,u,S,U,T,P,L,Q,M,t,d,rfl,z,B⟩;exact⟨c,u,S,U,T,P,L,Q,M,t,⟨d.fit ⟨l,Yu,o,Yu⟩,d.ik,d.ij⟩,rfl,z,B⟩
 .rintro e J ⟨u,S,U,T,P,L,Q,M,t,d,rfl,C,D⟩;refine⟨_,rfl,C.rv ?_,D⟩;rcases d with⟨_,rfl⟩|⟨_,h⟩
  .exact JT
  .exact h
theorem Es.fitv(h:Es v b (some (u,n)))(c:Fw v):Fw (Ba v u):=by
 rcases h with⟨_,h⟩|⟨r,e,_,h⟩
 .cases h
 have a:=h.civ (Ll e) _ rfl;have i:=a.dl;have g:=a.df;have j:=KD (fun k f=>(a.ok.B k f).1);have l:=DV e.log;have m:=a.ql;have o:=a.ml;rw[List.length_append]at l g;simp only at i g j m o;refine⟨c.s,?_,c.ss,?_,⟨by show u.ks.length<=_;omega,fun k f=>by have:=(a.ok.B k f).1;omega,c.N.p,c.N.l⟩,⟨by show u.F.length<=_;omega,by show u.ms.length<=_;omega⟩,by show EZ u.ks<=_;omega⟩
 .show(v.A++u.y.map (IN v.wd)).length<=_;rw[List.length_append,List.length_map];omega
 .intro s d;rcases List.mem_append.1 d with d|d
  .exact c.A s d
  .obtain⟨x,_,rfl⟩:=List.mem_map.1 d;have:=TI v.wd x;omega
theorem Sf(A:Zj)(k:Int)(w:Zh)(B:RV m w A):Calls prog 99 #[.agg A.toArray,Zg k] w fun e d=>∃c q n D,e=.returned (.agg (IP c q n D).toArray)/\D.oneCell'=true/\RV w.heap.size d q/\Zz w d:=by
 obtain⟨v,a,⟨f,s,t⟩,rfl,g,i⟩:=B.D;refine(QE v a k w g i.cap f (fun h=>i.cp g f h)).mono ?_;rintro e d ⟨o,x,b,rfl,j,l⟩;rcases o with _|⟨u,n⟩
 .have r:x=z20 1:=j;subst r;exact⟨1,_,0,Zb,rfl,rfl,(AD.nil d w.heap.size).rv JT,l⟩
 .obtain⟨S,U,T,P,L,Q,M,C,D,rfl,y,z,_⟩:=j;obtain⟨_,_,rfl,_⟩:=z.row;exact⟨0,_,n,_,rfl,rfl,y.rv ⟨b.fitv f,b.ik s,b.ij t⟩,l⟩
theorem Sg(s:Zi)(a:Int)(w:Zh)(d:s.size<=100000):Calls prog 50 #[.string s,Zg a] w fun e b=>∃t,e=.returned (.string t)/\Zz w b:=by
 by_cases h:1<=a/\a<=8
 .refine(Fl s a w Yp h.1 h.2).mono ?_;rintro e b ⟨rfl,c⟩;exact⟨_,rfl,c⟩
 .refine(OZ s a w Yv).mono ?_;rintro e b ⟨rfl,rfl⟩;exact⟨_,rfl,Below.refl _ _⟩
theorem KJ(a:Int)(n:Nat)(h:0<=a):a.tmod (n:Int)=((a.toNat%n:Nat):Int):=by
 rw[Int.tmod_eq_emod_of_nonneg h];have:a=(a.toNat:Int):=Yv
 rw[this];simp
theorem Lr(r A h B:Int)(C y:Zi)(k now g c:Int)(a p l:Zk)(m pn z v u:Nat)(d:List Kd)(w:Zh)(F:AI w w.heap.size a d)(E:0<=h)(_:h<=1000)(I:d.length<=1048576):
 Calls prog 91 #[.agg #[.int .i64 r,.string C,.int .i64 A,.string y,.int .i64 h,.int .i64 B],.agg #[.int .i64 k,.int .i64 now,.int .i64 g,.int .i64 c,.slice a d.length m,.slice p pn z,.slice l v u]] w fun e G=>∃s,e=.returned (.string s)/\Zz w G:=by
 have f:Below w.heap.size w ((w.alloc (.cells #[.int .i64 r,.string C,.int .i64 A,.string y,.int .i64 h,.int .i64 B] 102)).alloc (.cells #[.int .i64 k,.int .i64 now,.int .i64 g,.int .i64 c,.slice a d.length m,.slice p pn z,.slice l v u] 27)):=(Zy).alloc (by simp) _;go_enter func91,ntmps91;by_cases hz:d.length=0
 .have D:((d.length:Int)==0)=true:=by simpa using hz
  clear hz;go_wp2_with fail;refine(Sg _ k _ (by decide)).mono ?_;rintro e K ⟨t,rfl,n⟩;go_wp2;go_ret;exact⟨t,rfl,f.trans (n.mono f.size)⟩
 .have D:((d.length:Int)==0)=false:=by simpa using hz
  have J:=KJ h d.length E;have j:h.toNat%d.length<d.length:=Nat.mod_lt _ (by omega);clear hz;obtain⟨b,off,rfl,n,o⟩:=F.at j;generalize h.toNat%d.length=i at *
  have q:=Zv j;obtain⟨H,_⟩:=o i _ q;generalize d[i]=x at *
  clear o q;go_wp2;go_quiet (fail);go_wp2;go_ret;exact⟨x.sum,rfl,⟨f.os,f.tape,f.output,f.size,f.block⟩⟩
theorem Oc(r v h z:Int)(A t:Zi)(y now f c:Int)(a p l:Zk)(m k pn u s:Nat)(d:List Ld)(w:Zh)(D:AR w w.heap.size l d)(C:0<=h)(G:h<=1000)(I:d.length<=1048576):
 Calls prog 95 #[.agg #[Zg r,.string A,Zg v,.string t,Zg h,Zg z],.agg (Yj y now f c a m k p pn u l d.length s)] w fun e E=>∃n,e=.returned (Zg n)/\Zz w E:=by
 have g:Below w.heap.size w ((w.alloc (.cells #[Zg r,.string A,Zg v,.string t,Zg h,Zg z] 102)).alloc (.cells (Yj y now f c a m k p pn u l d.length s) 27)):=(Zy).alloc Yu _;go_enter func95,ntmps95;by_cases hz:d.length=0
 .have B:((d.length:Int)==0)=true:=by simpa using hz
  clear hz;go_wp2;go_ret;exact⟨_,rfl,g⟩
 .have B:((d.length:Int)==0)=false:=by simpa using hz
  have J:=KJ h d.length C;have j:h.toNat%d.length<d.length:=Nat.mod_lt _ Yv;clear hz;obtain⟨b,off,rfl,H,o⟩:=D.at j;generalize h.toNat%d.length=i at *
  have q:=Zv j;obtain⟨F,_⟩:=o i _ q;generalize d[i]=x at *
  clear o q;go_wp2;go_quiet (fail);go_wp2;go_ret;exact⟨x.H,rfl,⟨g.os,g.tape,g.output,g.size,g.block⟩⟩
theorem JA{a:Zh}{g c:Nat}{b:Zl}{u1 u2 u3:Value}(d:Zz w a)(e:a.ownsRow n 9 1 (Yz g b.length c) b.length (b.map Value.string))(f:w.heap.size+4<=n):
 Ab (((a.setCell (Zd (w.heap.size+1+1+1) 1) u1).setCell (Zd (w.heap.size+1+1) 0) u2).setCell (Zd (w.heap.size+1+1) 1) u3) (((a.setCell (Zd (w.heap.size+1+1+1) 1) u1).setCell (Zd (w.heap.size+1+1) 0) u2).setCell (Zd (w.heap.size+1+1) 1) u3).heap.size (some ⟨g,0,none⟩) b/\Zz w (((a.setCell (Zd (w.heap.size+1+1+1) 1) u1).setCell (Zd (w.heap.size+1+1) 0) u2).setCell (Zd (w.heap.size+1+1) 1) u3):=by
 have t:Tn [w.heap.size+1+1+1,w.heap.size+1+1] a (((a.setCell (Zd (w.heap.size+1+1+1) 1) u1).setCell (Zd (w.heap.size+1+1) 0) u2).setCell (Zd (w.heap.size+1+1) 1) u3):=((Tn.set _ _ _ _ Yu).trans (Tn.set _ _ _ _ Yu)).trans (Tn.set _ _ _ _ Yu);exact⟨Ab.own (NJ e t Yt),d.trans (t.below d.size Yt)⟩
theorem Od(Y J C tk:Int)(z nm:Zi)(sw now s h:Int)(a p l:Zk)(U pn pc ln Z:Nat)(n:List Kd)(w:Zh)(M:AI w w.heap.size a n)(h0:0<=C)(h1:C<=1000)(zJ:0<=J)(zK:J<=1000)(hl:n.length<=1048576):
 Calls prog 89 #[.agg #[Zg Y,.string z,Zg J,.string nm,Zg C,Zg tk],.agg #[Zg sw,Zg now,Zg s,Zg h,.slice a n.length U,.slice p pn pc,.slice l ln Z]] w fun e w'=>∃g c d,e=.returned (.agg #[.string z,.slice (some ⟨g,0,none⟩) d.length c])/\Ab w' w'.heap.size (some ⟨g,0,none⟩) d/\d.length<=4/\Zz w w':=by
 obtain⟨i0,hi,zC,zE,zF⟩:=info_parts BW;obtain⟨W,y⟩:∃W,W=(((w.alloc (.cells #[Zg Y,.string z,Zg J,.string nm,Zg C,Zg tk] 102)).alloc (.cells #[Zg sw,Zg now,Zg s,Zg h,.slice a n.length U,.slice p pn pc,.slice l ln Z] 27)).alloc (.cells #[Zc,Zb] 35)).alloc (.cells #[.string z,Zb] 35):=⟨_,rfl⟩;obtain⟨bW,zW,xA,xS,xR,xT⟩:=Vi y
 have t:Hid (∀X,Zz W X->Aa X w.heap.size [Zg Y,.string z,Zg J,.string nm,Zg C,Zg tk]/\Aa X (w.heap.size+1) [Zg sw,Zg now,Zg s,Zg h,.slice a n.length U,.slice p pn pc,.slice l ln Z]/\Aa X (w.heap.size+1+1) [Zc,Zb]/\Aa X (w.heap.size+1+1+1) [.string z,Zb]/\Zz w X):=fun X K=>⟨Aa.below xA K,Aa.below xS K,Aa.below xR K,Aa.below xT K,bW.trans (K.mono bW.size)⟩;have H:Hid (W.heap.size=w.heap.size+4):=zW
 have oL:(W.alloc (.cells #[] 9)).ownsRow W.heap.size 9 1 (.slice (some ⟨W.heap.size,0,none⟩) 0 0) 0 (([]:Zl).map Value.string):=World.ownsRow_lit W #[] 0 (by omega) (by unfold maxLen;omega) rfl;have T:Hid ((W.alloc (.cells #[] 9)).ownsRow W.heap.size 9 1 (.slice (some ⟨W.heap.size,0,none⟩) ([]:Zl).length 0) ([]:Zl).length (([]:Zl).map Value.string)):=oL;have HW:Hid _:=y;clear y xA xS xR xT zW oL
 go_enter func89,ntmps89;go_upto_region 2 with fail;rw[<-HW.o];clear HW;obtain⟨y4,_⟩:=(t.o (W.alloc (.cells #[] 9)) (Zy)).2.1 4 _ rfl;go_upto_region 3 with fail;by_cases hz:n.length=0
 .have S:¬0<n.length:=by omega
  have V:Below W.heap.size W (W.alloc (.cells #[] 9)):=Zy;clear hz;go_wp2_with fail;refine(Gh (some ⟨W.heap.size,0,none⟩) 0 [] _ (Ab.own T.o) (by simp)).mono ?_;rintro e F ⟨r,q,rfl,B,A⟩;have m:=V.trans (A.mono V.size)
  have E:Hid _:=JA (u1:=.slice (some ⟨r,0,none⟩) (Bg []).length q) (u2:=.string z) (u3:=.slice (some ⟨r,0,none⟩) (Bg []).length q) (t.o F m).2.2.2.2 B (by have:=H.o;have:=V.size;omega);have G:Hid ((Bg []).length<=4):=Zm (Ea _) (by simp);have f:Hid _:=t.o F m;obtain⟨⟨r0,_⟩,L,_⟩:=Zn (f.o.2.2.1 0 _ rfl) (f.o.2.2.1 1 _ rfl);obtain⟨⟨t0,_⟩,t1,_⟩:=Zn (f.o.2.2.2.1 0 _ rfl) (f.o.2.2.2.1 1 _ rfl)
  clear t H f m A B;go_wp2;exact bodyPost_ret (v:=.agg #[.string z,.slice (some ⟨r,0,none⟩) (Bg []).length q]) (by simp[results,results89,go_sem,r0,L]) rfl ⟨r,q,_,rfl,E.o.1,G.o,E.o.2⟩
 .have S:0<n.length:=by omega
  clear hz;go_wp2
  go_loopw [6,7] (fun li k wr=>∃(j g c:Nat) (d:Zl),k=Zg j/\j<=4/\li=.slice (some ⟨g,0,none⟩) d.length c/\d.length=j/\Hid (wr.ownsRow W.heap.size 9 1 (.slice (some ⟨g,0,none⟩) d.length c) d.length (d.map Value.string)/\Zz W wr)) (fun _ k _=>4 -(intOf k).toNat)
  case atStart=>exact⟨0,W.heap.size,0,[],rfl,by omega,rfl,rfl,T.o,Zy⟩
  case round=>
   obtain⟨j,g,c,d,rfl,hj,rfl,rfl,o⟩:=hrel;have y:=(t.o wr o.o.2);obtain⟨z2,_⟩:=y.1 2 _ rfl;by_cases hc1:(d.length:Int)<J/2
   .by_cases hc2:d.length<4
    .have zH:d.length<=3:=by omega
     have zB:¬n.length=0:=by omega
     have zI:((n.length:Int)==0)=false:=by simpa using zB
     have hm:=KJ (C+5 *(d.length:Int)) n.length (by omega);have Q:(C+5 *(d.length:Int)).toNat%n.length<n.length:=Nat.mod_lt _ S;have e1:IntKind.i64.wrap (5 *(d.length:Int))=5 *(d.length:Int):=Bs (by omega) (by omega);have e2:IntKind.i64.wrap (C+5 *(d.length:Int))=C+5 *(d.length:Int):=Bs (by omega) (by omega);obtain⟨b,off,rfl,hb,hc⟩:=(AI.below M y.2.2.2.2).at Q
     have zG:b<wr.heap.size:=Zr hb y.2.2.2.2.size;generalize (C+5 *(d.length:Int)).toNat%n.length=i at *
     have hg:=Zv Q;obtain⟨c0,_⟩:=hc i _ hg;generalize n[i]=x at *
     obtain⟨y4,_⟩:=y.2.1 4 _ rfl;obtain⟨z4,_⟩:=y.1 4 _ rfl;have ho:=o.o.1;have zA:=ho.lt g rfl;have D:Hid (wr.ownsRow W.heap.size 9 1 (.slice (some ⟨g,0,none⟩) d.length c) d.length (d.map Value.string)/\Zz W wr):=o;clear hc hg y ho o M;go_upto_region 7 with fail
     go_region_law (first
      |(refine step_append_lies (wr.drew.alloc (.cells #[.string x.sum] 9)) (by rfl) (.tmp 27) (.tmp 42) 29 (by rfl) W.heap.size 9 i0 Zc 1 16 underlying29 hi zC zE zF rfl (by decide) (.slice (some ⟨g,0,none⟩) d.length c) d.length (d.map Value.string) (by rfl) (by exact D.o.1.alloc _) ⟨wr.heap.size,0,none⟩ 1 1 [.string x.sum] (by rfl) rfl (by exact cell_one_new wr.drew _ 9) (fun u hu=>by simp at hu;subst hu;rfl) (by omega) (by unfold maxLen;omega) (by omega) (by have:=D.o.2.size;simp;omega) _ rfl ?_;intro g4 I w4 R P N O))
     all_goals
      have HN:Hid (w4.ownsRow W.heap.size 9 1 (.slice (some ⟨g4,0,none⟩) (d++[x.sum]).length I) (d++[x.sum]).length ((d++[x.sum]).map Value.string)/\Zz W w4):=by refine⟨by simpa using R,?_⟩;exact((D.o.2.drew.alloc D.o.2.size _).grown P (by have:=D.o.2.size;simp;omega) (fun k M=>by cases M;exact zA.1))
      clear R P N O D t H T c0 y4 z4 z2 hm e1 e2;go_wp2;exact⟨⟨d.length+1,g4,I,d++[x.sum],by go_num,by omega,by simp,by simp,HN⟩,by simp[intOf];omega⟩
    .clear y;go_wp2_with fail;refine(Gh (some ⟨g,0,none⟩) c d wr (Ab.own o.o.1) (by omega)).mono ?_;rintro e F ⟨r,q,rfl,B,A⟩;have m:=o.o.2.trans (A.mono o.o.2.size);have E:Hid _:=JA (u1:=.slice (some ⟨r,0,none⟩) (Bg d).length q) (u2:=.string z) (u3:=.slice (some ⟨r,0,none⟩) (Bg d).length q) (t.o F m).2.2.2.2 B (by have:=H.o;have:=o.o.2.size;omega)
     have G:Hid ((Bg d).length<=4):=Zm (Ea _) (by omega);have f:Hid _:=t.o F m;obtain⟨⟨r0,_⟩,L,_⟩:=Zn (f.o.2.2.1 0 _ rfl) (f.o.2.2.1 1 _ rfl);obtain⟨⟨t0,_⟩,t1,_⟩:=Zn (f.o.2.2.2.1 0 _ rfl) (f.o.2.2.2.1 1 _ rfl);clear t H f o m A B;go_wp2;exact bodyPost_ret (v:=.agg #[.string z,.slice (some ⟨r,0,none⟩) (Bg d).length q]) (by simp[results,results89,go_sem,r0,L]) rfl ⟨r,q,_,rfl,E.o.1,G.o,E.o.2⟩
   .clear y;go_wp2_with fail;refine(Gh (some ⟨g,0,none⟩) c d wr (Ab.own o.o.1) (by omega)).mono ?_;rintro e F ⟨r,q,rfl,B,A⟩;have m:=o.o.2.trans (A.mono o.o.2.size);have E:Hid _:=JA (u1:=.slice (some ⟨r,0,none⟩) (Bg d).length q) (u2:=.string z) (u3:=.slice (some ⟨r,0,none⟩) (Bg d).length q) (t.o F m).2.2.2.2 B (by have:=H.o;have:=o.o.2.size;omega)
    have G:Hid ((Bg d).length<=4):=Zm (Ea _) (by omega);have f:Hid _:=t.o F m;obtain⟨⟨r0,_⟩,L,_⟩:=Zn (f.o.2.2.1 0 _ rfl) (f.o.2.2.1 1 _ rfl);obtain⟨⟨t0,_⟩,t1,_⟩:=Zn (f.o.2.2.2.1 0 _ rfl) (f.o.2.2.2.1 1 _ rfl);clear t H f o m A B;go_wp2;exact bodyPost_ret (v:=.agg #[.string z,.slice (some ⟨r,0,none⟩) (Bg d).length q]) (by simp[results,results89,go_sem,r0,L]) rfl ⟨r,q,_,rfl,E.o.1,G.o,E.o.2⟩
theorem Vb(n:Nat)(w:Zh):RV n w Bz:=⟨v0,JT,fun _ a _ _=>(AD.nil a 0).iu⟩
theorem Vc{d k:Dd}(l:Aa W q (dL k Bz))(f:q<W.heap.size)(e:Zz W X)(g:RV W.heap.size X a):
 ((dL d a).length=22/\∀u∈dL d a,u.oneCell'=true)/\X.there q 0 (dL d a).toArray.size/\∃j i,Aa (X.setCells q 0 (dL d a).toArray.toList) q (dL j i)/\RV W.heap.size (X.setCells q 0 (dL d a).toArray.toList) i/\Tn [q] W (X.setCells q 0 (dL d a).toArray.toList):=by
 have c:=Jt (d:=d) g.len;have h:=AL q (dL d a) 0 X;have b:=Aa.same l (e.block q f);refine⟨c,?_,d,a,b.au _ (by rw[c.1];rfl),g.I h (by simpa using f),(Tn.of e).trans h⟩;rw[show(dL d a).toArray.size=22 from by rw[List.size_toArray];exact c.1];exact b.there
theorem IC{b:Zi}{v:Value}(h:∃g c,∃a:Zl,v=.agg #[.string b,Yz g a.length c]/\Ab X X.heap.size (some ⟨g,0,none⟩) a/\a.length<=4)(i:Zz X Y):∃g c,∃a:Zl,v=.agg #[.string b,Yz g a.length c]/\Ab Y Y.heap.size (some ⟨g,0,none⟩) a/\a.length<=4:=by obtain⟨g,c,a,d,e,f⟩:=h;exact⟨g,c,a,d,e.M i,f⟩
theorem ID{v:Value}(h:∃d a,v=.agg (dL d a).toArray/\RV n X a)(e:Zz X Y):∃d a,v=.agg (dL d a).toArray/\RV n Y a:=by obtain⟨d,a,b,c⟩:=h;exact⟨d,a,b,c.below e⟩
theorem Ps{p:Nat->Prop}(n:Aa W q Bz)(g:Tn V W X)(l:q∉V)(j:w.heap.size<=q)(k:∀b∈V,w.heap.size<=b)(i:q<W.heap.size)(c:Zz w W)(f:a.length=17)(m:CX p (X.setCells q 0 a.toArray.toList) a):
 X.there q 0 a.toArray.size/\Aa (X.setCells q 0 a.toArray.toList) q a/\∃h,Ending.returned (.agg a.toArray)=.returned (.agg h.toArray)/\CX p (X.setCells q 0 a.toArray.toList) h/\Zz w (X.setCells q 0 a.toArray.toList):=by
 have d:=Aa.same n (g.block q i l);have e:=c.trans (g.below c.size k);refine⟨?_,d.au a (by rw[f];rfl),a,rfl,m,e.trans ((AL q a 0 X).below e.size (by simpa using j))⟩;rw[show a.toArray.size=17 from by rw[List.size_toArray];exact f];exact d.there
theorem Ni{p:Nat->Prop}(l:Aa W q Bz)(m:Tn V W X)(k:q∉V)(g:w.heap.size<=q)(h:∀b∈V,w.heap.size<=b)(d:q<W.heap.size)(c:Zz w W)(e:RV W.heap.size X a)(j:∀b,p b->b<w.heap.size):
 X.there q 0 a.toArray.size/\Aa (X.setCells q 0 a.toArray.toList) q a/\∃f,Ending.returned (.agg a.toArray)=.returned (.agg f.toArray)/\CX p (X.setCells q 0 a.toArray.toList) f/\Zz w (X.setCells q 0 a.toArray.toList):=
 Ps l m k g h d c e.len.1 ((e.I (AL q a 0 X) (by simpa using d)).p (fun b i=>by have:=j b i;have:=c.size;omega))
theorem Wo{p:Nat->Prop}(l:Aa W q Bz)(h:Tn V W X)(k:q∉V)(d:w.heap.size<=q)(e:∀b∈V,w.heap.size<=b)(j:q<W.heap.size)(c:Zz w W)(g:CX p w a):
 X.there q 0 a.toArray.size/\Aa (X.setCells q 0 a.toArray.toList) q a/\∃i,Ending.returned (.agg a.toArray)=.returned (.agg i.toArray)/\CX p (X.setCells q 0 a.toArray.toList) i/\Zz w (X.setCells q 0 a.toArray.toList):=by
 have f:=c.trans (h.below c.size e);exact Ps l h k d e j c g.zero.len.1 (g.below (f.trans ((AL q a 0 X).below f.size (by simpa using d))))
theorem TL{p:Nat->Prop}(A:Zj)(r P J H:Int)(N L:Zi)(w:Zh)(hm:∀b,p b->b<w.heap.size)(hv:CX p w A)(ht:N.size<=16)(yD:0<=P)(yI:P<8)(hn:L.size<=1)(zI:0<=J)(yG:J<40):
 Calls prog 62 #[.agg A.toArray,.agg #[.int .i64 r,.string N,.int .i64 P,.string L,.int .i64 J,.int .i64 H]] w fun e w'=>∃j,e=.returned (.agg j.toArray)/\CX p w' j/\Zz w w':=by
 obtain⟨I,zF⟩:∃W,W=((w.alloc (.cells A.toArray 80)).alloc (.cells #[.int .i64 r,.string N,.int .i64 P,.string L,.int .i64 J,.int .i64 H] 102)).alloc (.cells #[.int .i64 0,.int .i64 0,.slice none 0 0,.slice none 0 0,.int .i64 0,.int .i64 0,.int .i64 0,.int .i64 0,.slice none 0 0,.slice none 0 0,.slice none 0 0,.int .i64 0,.slice none 0 0,.slice none 0 0,.int .i64 0,.int .i64 0,.int .i64 0] 80):=⟨_,rfl⟩
 obtain⟨W4,zH⟩:∃W,W=I.alloc (.cells #[.int .i64 0,.int .i64 0,.int .i64 0,.slice none 0 0,.slice none 0 0,.int .i64 0,.int .i64 0,.int .i64 0,.int .i64 0,.slice none 0 0,.slice none 0 0,.slice none 0 0,.int .i64 0,.slice none 0 0,.slice none 0 0,.int .i64 0,.int .i64 0,.int .i64 0,.string ⟨#[]⟩,.int .i64 0,.string ⟨#[]⟩,.string ⟨#[]⟩] 139):=⟨_,rfl⟩
 obtain⟨W,hW⟩:∃W,W=W4.setCells I.heap.size 0 [.int .i64 1,.int .i64 0,.int .i64 0,.slice none 0 0,.slice none 0 0,.int .i64 0,.int .i64 0,.int .i64 0,.int .i64 0,.slice none 0 0,.slice none 0 0,.slice none 0 0,.int .i64 0,.slice none 0 0,.slice none 0 0,.int .i64 0,.int .i64 0,.int .i64 0,.string ⟨#[]⟩,.int .i64 0,.string ⟨#[]⟩,.string ⟨#[]⟩].toArray.toList:=⟨_,rfl⟩;have b3:=(CZ zF).1
 have z3:=(CZ zF).2.1;have b4:=(Bc zH).1;have z4:=(Bc zH).2.1;have x4:Aa W4 I.heap.size El:=(Bc (l:=El) zH).2.2;have t9:Tn [I.heap.size] W4 W:=by rw[hW];exact AL _ _ _ _
 have zW:Hid (W4.there I.heap.size 0 22):=x4.there;have hs:∀{B:Nat} {v:Value} {l:Zj},B<I.heap.size->Aa I B (v::l)->Aa W B (v::l):=fun hB h=>Aa.same (Aa.below h b4) (t9.block _ (by omega) (by simp;omega));have zV:=hv.zero.len.1;have hA:Aa W w.heap.size A:=by
  obtain⟨c,l,hl⟩:∃c l,A=c::l:=by cases A with|nil=>simp at zV|cons c l=>exact⟨c,l,rfl⟩
  have:=(CZ zF).2.2.1;rw[hl]at this |-;exact hs (by omega) this
 have HX:Hid (Aa W w.heap.size A/\Aa W (w.heap.size+1) [.int .i64 r,.string N,.int .i64 P,.string L,.int .i64 J,.int .i64 H]/\Aa W (w.heap.size+1+1) Bz/\Aa W I.heap.size (dL (EA 1 v0 ⟨#[]⟩ ⟨#[]⟩) Bz)):=⟨hA,hs (by omega) (CZ zF).2.2.2.1,hs (by omega) (CZ (m:=Bz) zF).2.2.2.2,by rw[hW];exact x4.au _ rfl⟩
 have bW:Below w.heap.size w W:=b3.trans ((b4.mono b3.size).trans (t9.below (by omega) (by simp;omega)));have R:Hid (Zz w W/\I.heap.size=w.heap.size+3/\W.heap.size=w.heap.size+4):=⟨bW,z3,by rw[hW,IK];omega⟩;have S:Hid (A.length=17):=zV;have HV:Hid (CX p w A):=hv;have zZ:Hid (∀u∈A,u.oneCell'=true):=hv.zero.len.2;have zX:Hid _:=zF;have zU:Hid _:=zH;have HW:Hid _:=hW
 clear hW hv zF zH b3 z3 b4 z4 x4 t9 hs hA zV bW;go_enter func62,ntmps62;go_upto_region 1 with fail;rw[<-zX.o]
 go_upto_region 2 with(refine wpList_store_mid rfl 139 _ _ rfl I.heap.size 0 #[.int .i64 1,.int .i64 0,.int .i64 0,.slice none 0 0,.slice none 0 0,.int .i64 0,.int .i64 0,.int .i64 0,.int .i64 0,.slice none 0 0,.slice none 0 0,.slice none 0 0,.int .i64 0,.slice none 0 0,.slice none 0 0,.int .i64 0,.int .i64 0,.int .i64 0,.string ⟨#[]⟩,.int .i64 0,.string ⟨#[]⟩,.string ⟨#[]⟩] rfl rfl (by rw[<-zU.o];exact zW.o) (by kernel_rfl) (by kernel_rfl) ?_)
 rw[<-zU.o,<-HW.o];clear zX zU HW zW;obtain⟨y0,_⟩:=HX.o.2.1 0 _ rfl
 go_upto_block 0 with fail
 go_cut [] (fun wx=>Hid (∃d j,Aa wx I.heap.size (dL d j)/\RV W.heap.size wx j/\Tn [I.heap.size] W wx))
 case first=>
  have zA:Hid (RV 0 W A):=(HV.o.below R.o.1).zero;obtain⟨u,a,hf,hA,zC,yC⟩:=zA.o.D;have HK:Hid (∀X,Zz W X->AI X X.heap.size a.T u.ks/\AR X X.heap.size a.J u.ls):=fun X hX=>⟨(zC.M hX).N.k,(zC.M hX).N.l⟩;have M:Hid (∀X,Zz W X->Aa X w.heap.size A):=fun X hX=>Aa.same HX.o.1 (hX.block _ (by have:=R.o;omega))
  have zB:Hid (∀X,Zz W X->X.rangeAt w.heap.size 4 [.int .i64 u.O,.int .i64 u.D,.int .i64 u.G,.int .i64 u.C,.slice a.T u.ks.length a.U,.slice a.L u.ps.length a.Q,.slice a.J u.ls.length a.P]):=fun X hX=>by have h:=M.o X hX;rw[hA]at h;exact Aa.fj [.int .i64 u.wd,.int .i64 u.lim,.slice a.Z u.ss.length a.j,.slice a.X u.A.length a.Y] [.int .i64 u.O,.int .i64 u.D,.int .i64 u.G,.int .i64 u.C,.slice a.T u.ks.length a.U,.slice a.L u.ps.length a.Q,.slice a.J u.ls.length a.P] [.int .i64 u.K,.slice a.g u.F.length a.qc,.slice a.i u.ms.length a.mc,.int .i64 u.R,.int .i64 u.S,.int .i64 u.ro] h
  have O:Hid (∀X,Zz W X->Aa X (w.heap.size+1) [.int .i64 r,.string N,.int .i64 P,.string L,.int .i64 J,.int .i64 H]):=fun X hX=>Aa.below HX.o.2.1 hX;have zJ:Hid (u.ks.length<=1048576/\u.ls.length<=1048576):=⟨hf.fit.N.k,hf.fit.N.l⟩
  have T:Hid (∀(d:Dd) j X,Zz W X->RV W.heap.size X j->((dL d j).length=22/\∀u∈dL d j,u.oneCell'=true)/\X.there I.heap.size 0 (dL d j).toArray.size/\∃d' us,Aa (X.setCells I.heap.size 0 (dL d j).toArray.toList) I.heap.size (dL d' us)/\RV W.heap.size (X.setCells I.heap.size 0 (dL d j).toArray.toList) us/\Tn [I.heap.size] W (X.setCells I.heap.size 0 (dL d j).toArray.toList)):=fun d j X hX y=>Vc HX.o.2.2.2 (by have:=R.o;omega) hX y
  have zE:Hid _:=HX.o.2.2.1;have zY:Hid _:=HX.o.2.2.2;have bW:=R.o.1;clear hA zC yC hf HX;by_cases k1:r=1
  .have q1:(r==1)=true:=by simpa using k1
   clear k1;go_upto_region 4 with fail;refine DN [11,12,13,14,15,16,17,18] 8 rfl _ rfl (by kernel_rfl) (by kernel_rfl) (by kernel_rfl) (by kernel_rfl) (by kernel_rfl) (by decide) (by kernel_rfl) (fun _ X=>Zz W X) (fun i X v=>match i with
    |0=>v=.agg A.toArray
    |1=>v=.agg #[.int .i64 r,.string N,.int .i64 P,.string L,.int .i64 J,.int .i64 H]
    |2=>v=.pointer (some ⟨w.heap.size,4,none⟩)
    |3=>v=.agg #[.int .i64 u.O,.int .i64 u.D,.int .i64 u.G,.int .i64 u.C,.slice a.T u.ks.length a.U,.slice a.L u.ps.length a.Q,.slice a.J u.ls.length a.P]
    |4=>∃g c rs,v=.agg #[.string N,.slice (some ⟨g,0,none⟩) rs.length c]/\Ab X X.heap.size (some ⟨g,0,none⟩) rs/\rs.length<=4
    |5=>v=.pointer (some ⟨w.heap.size+1,5,none⟩)
    |6=>v=.int .i64 H
    |7=>∃d j,v=.agg (dL d j).toArray/\RV W.heap.size X j
    |_=>True) (fun X Y=>Zz X Y) ?_ (Below.refl _ _).drew ?_ ?_
   .intro i X Y v Z G;rcases i with _|_|_|_|_|_|_|_|_<;>first
     |exact G
     |exact IC G Z
     |exact ID G Z
   .intro i o k x X hi ho hk f F K q;rcases(show i=0\/i=1\/i=2\/i=3\/i=4\/i=5\/i=6\/i=7 by omega)with rfl|rfl|rfl|rfl|rfl|rfl|rfl|rfl<;>cases ho<;>simp only[Bb,Act.put,Zq,Zp,Zo]at q |-
    .refine wp_load_mid 80 _ rfl w.heap.size 0 rfl A _ (M.o X f).range underlying80 rfl (by rw[S.o];kernel_rfl) ?_;exact q.out _ X rfl (Below.refl _ _) f
    .refine wp_load_mid 102 _ rfl (w.heap.size+1) 0 rfl [.int .i64 r,.string N,.int .i64 P,.string L,.int .i64 J,.int .i64 H] _ (O.o X f).range underlying102 rfl (by kernel_rfl) ?_;exact q.out _ X rfl (Below.refl _ _) f
    .go_simp;exact q.out _ X rfl (Below.refl _ _) f
    .have d2:=F ⟨2,.data⟩ (by simp) (by rfl);rw[show x 2=.pointer (some ⟨w.heap.size,4,none⟩)from d2]at q |-;refine wp_load_mid 27 _ rfl w.heap.size 4 rfl [.int .i64 u.O,.int .i64 u.D,.int .i64 u.G,.int .i64 u.C,.slice a.T u.ks.length a.U,.slice a.L u.ps.length a.Q,.slice a.J u.ls.length a.P] _ (zB.o X f) underlying27 rfl (by kernel_rfl) ?_;exact q.out _ X rfl (Below.refl _ _) f
    .have d1:=F ⟨1,.data⟩ (by simp) (by rfl);have d3:=F ⟨3,.data⟩ (by simp) (by rfl);rw[show x 1=.agg #[.int .i64 r,.string N,.int .i64 P,.string L,.int .i64 J,.int .i64 H]from d1,show x 3=.agg #[.int .i64 u.O,.int .i64 u.D,.int .i64 u.G,.int .i64 u.C,.slice a.T u.ks.length a.U,.slice a.L u.ps.length a.Q,.slice a.J u.ls.length a.P]from d3]at q |-;go_simp
     refine(Od r P J H N L u.O u.D u.G u.C a.T a.L a.J a.U u.ps.length a.Q u.ls.length a.P u.ks X (HK.o X f).1 zI (by omega) yD (by omega) zJ.o.1).mono ?_;rintro e X' ⟨g,c,rs,rfl,hs,hl,z⟩;exact q.out _ X' ⟨g,c,rs,rfl,hs,hl⟩ z (f.trans (z.mono f.size))
    .go_simp;exact q.out _ X rfl (Below.refl _ _) f
    .have d5:=F ⟨5,.data⟩ (by simp) (by rfl);rw[show x 5=.pointer (some ⟨w.heap.size+1,5,none⟩)from d5]at q |-;obtain⟨c1,_⟩:=O.o X f 5 _ rfl;go_simp;exact q.out _ X rfl (Below.refl _ _) f
    .have d0:=F ⟨0,.data⟩ (by simp) (by rfl);have d4:=F ⟨4,.data⟩ (by simp) (by rfl);have d6:=F ⟨6,.data⟩ (by simp) (by rfl);obtain⟨g,c,rs,e4,hs,hl⟩:=d4;rw[show x 0=.agg A.toArray from d0,e4,show x 6=.int .i64 H from d6]at q |-;go_simp;refine(UU A N (some ⟨g,0,none⟩) c rs H X (zA.o.below f) hs (fun e=>by cases e) (by omega) (by unfold maxLen;omega)).mono ?_;rintro e X' ⟨d,j,rfl,y,z⟩
     exact q.out _ X' ⟨d,j,rfl,y.mono f.size⟩ z (f.trans (z.mono f.size))
   .intro x X f G K q;simp only[Bb,Act.put,Zq,Zp,Zo];obtain⟨d,j,e1,y⟩:=G 7 (by decide);have C:Hid _:=T.o d j X f y;obtain⟨D,Q⟩:∃t,t=dL d j:=⟨_,rfl⟩;rw[<-Q]at C e1;rw[e1];clear Q y G;refine wp_store_mid 139 _ _ rfl I.heap.size 0 D.toArray rfl rfl C.o.2.1 (by rw[List.size_toArray,C.o.1.1];kernel_rfl) (all_oneCell_toArray C.o.1.2) ?_;refine q.out _ _ ?_;clear q K;go_wp2_with fail;go_meet
    exact C.o.2.2
  have q1:(r==1)=false:=by simpa using k1
  clear k1;by_cases k2:r=2
  .have q2:(r==2)=true:=by simpa using k2
   clear k2;go_upto_region 6 with fail;refine DN [21,22,23,24,25,26,27,28] 8 rfl _ rfl (by kernel_rfl) (by kernel_rfl) (by kernel_rfl) (by kernel_rfl) (by kernel_rfl) (by decide) (by kernel_rfl) (fun _ X=>Zz W X) (fun i X v=>match i with
    |0=>v=.agg A.toArray
    |1=>v=.pointer (some ⟨w.heap.size+1,3,none⟩)
    |2=>v=.string L
    |3=>v=.agg #[.int .i64 r,.string N,.int .i64 P,.string L,.int .i64 J,.int .i64 H]
    |4=>v=.pointer (some ⟨w.heap.size,4,none⟩)
    |5=>v=.agg #[.int .i64 u.O,.int .i64 u.D,.int .i64 u.G,.int .i64 u.C,.slice a.T u.ks.length a.U,.slice a.L u.ps.length a.Q,.slice a.J u.ls.length a.P]
    |6=>∃s,v=.string s
    |7=>∃d j,v=.agg (dL d j).toArray/\RV W.heap.size X j
    |_=>True) (fun X Y=>Zz X Y) ?_ (Below.refl _ _).drew ?_ ?_
   .intro i X Y v Z G;rcases i with _|_|_|_|_|_|_|_|_<;>first
     |exact G
     |exact IC G Z
     |exact ID G Z
   .intro i o k x X hi ho hk f F K q;rcases(show i=0\/i=1\/i=2\/i=3\/i=4\/i=5\/i=6\/i=7 by omega)with rfl|rfl|rfl|rfl|rfl|rfl|rfl|rfl<;>cases ho<;>simp only[Bb,Act.put,Zq,Zp,Zo]at q |-
    .refine wp_load_mid 80 _ rfl w.heap.size 0 rfl A _ (M.o X f).range underlying80 rfl (by rw[S.o];kernel_rfl) ?_;exact q.out _ X rfl (Below.refl _ _) f
    .go_simp;exact q.out _ X rfl (Below.refl _ _) f
    .have d1:=F ⟨1,.data⟩ (by simp) (by rfl);rw[show x 1=.pointer (some ⟨w.heap.size+1,3,none⟩)from d1]at q |-;obtain⟨c1,_⟩:=O.o X f 3 _ rfl;go_simp;exact q.out _ X rfl (Below.refl _ _) f
    .refine wp_load_mid 102 _ rfl (w.heap.size+1) 0 rfl [.int .i64 r,.string N,.int .i64 P,.string L,.int .i64 J,.int .i64 H] _ (O.o X f).range underlying102 rfl (by kernel_rfl) ?_;exact q.out _ X rfl (Below.refl _ _) f
    .go_simp;exact q.out _ X rfl (Below.refl _ _) f
    .have d4:=F ⟨4,.data⟩ (by simp) (by rfl);rw[show x 4=.pointer (some ⟨w.heap.size,4,none⟩)from d4]at q |-;refine wp_load_mid 27 _ rfl w.heap.size 4 rfl [.int .i64 u.O,.int .i64 u.D,.int .i64 u.G,.int .i64 u.C,.slice a.T u.ks.length a.U,.slice a.L u.ps.length a.Q,.slice a.J u.ls.length a.P] _ (zB.o X f) underlying27 rfl (by kernel_rfl) ?_;exact q.out _ X rfl (Below.refl _ _) f
    .have d3:=F ⟨3,.data⟩ (by simp) (by rfl);have d5:=F ⟨5,.data⟩ (by simp) (by rfl);rw[show x 3=.agg #[.int .i64 r,.string N,.int .i64 P,.string L,.int .i64 J,.int .i64 H]from d3,show x 5=.agg #[.int .i64 u.O,.int .i64 u.D,.int .i64 u.G,.int .i64 u.C,.slice a.T u.ks.length a.U,.slice a.L u.ps.length a.Q,.slice a.J u.ls.length a.P]from d5]at q |-;go_simp
     refine(Lr r P J H N L u.O u.D u.G u.C a.T a.L a.J a.U u.ps.length a.Q u.ls.length a.P u.ks X (HK.o X f).1 zI (by omega) zJ.o.1).mono ?_;rintro e X' ⟨s,rfl,z⟩;exact q.out _ X' ⟨s,rfl⟩ z (f.trans (z.mono f.size))
    .have d0:=F ⟨0,.data⟩ (by simp) (by rfl);have d2:=F ⟨2,.data⟩ (by simp) (by rfl);have d6:=F ⟨6,.data⟩ (by simp) (by rfl);obtain⟨s,e6⟩:=d6;rw[show x 0=.agg A.toArray from d0,show x 2=.string L from d2,e6]at q |-;go_simp;refine(TB A L s X (zA.o.below f) (by unfold maxLen;omega)).mono ?_;rintro e X' ⟨d,j,rfl,y,z⟩;exact q.out _ X' ⟨d,j,rfl,y.mono f.size⟩ z (f.trans (z.mono f.size))
   .intro x X f G K q;simp only[Bb,Act.put,Zq,Zp,Zo];obtain⟨d,j,e1,y⟩:=G 7 (by decide);have C:Hid _:=T.o d j X f y;obtain⟨D,Q⟩:∃t,t=dL d j:=⟨_,rfl⟩;rw[<-Q]at C e1;rw[e1];clear Q y G;refine wp_store_mid 139 _ _ rfl I.heap.size 0 D.toArray rfl rfl C.o.2.1 (by rw[List.size_toArray,C.o.1.1];kernel_rfl) (all_oneCell_toArray C.o.1.2) ?_;refine q.out _ _ ?_;clear q K;go_wp2_with fail;go_meet
    exact C.o.2.2
  have q2:(r==2)=false:=by simpa using k2
  clear k2;by_cases k3:r=3
  .have q3:(r==3)=true:=by simpa using k3
   clear k3;obtain⟨y1,_⟩:=O.o W (Below.refl _ _) 3 _ rfl;go_wp2_with (refine wpList_load_mid rfl 80 _ rfl w.heap.size 0 rfl A _ (M.o W (Below.refl _ _)).range underlying80 rfl (by rw[S.o];kernel_rfl) ?_);refine(Qy A L W zA.o (by unfold maxLen;omega)).mono ?_;rintro o w1 ⟨d,j,rfl,y,z⟩;have C:Hid _:=T.o d j w1 z y;obtain⟨D,Q⟩:∃t,t=dL d j:=⟨_,rfl⟩;rw[<-Q]at C;rw[<-Q];clear Q y z HK M zB O T zE y1
   go_wp2_with (refine wpList_store_mid rfl 139 _ _ rfl I.heap.size 0 D.toArray rfl rfl C.o.2.1 (by rw[List.size_toArray,C.o.1.1];kernel_rfl) (all_oneCell_toArray C.o.1.2) ?_);go_meet;exact C.o.2.2
  have q3:(r==3)=false:=by simpa using k3
  clear k3;by_cases k4:r=4
  .have q4:(r==4)=true:=by simpa using k4
   clear k4;go_upto_region 10 with fail;refine DN [37,38,39,40,41,42,43,44] 8 rfl _ rfl (by kernel_rfl) (by kernel_rfl) (by kernel_rfl) (by kernel_rfl) (by kernel_rfl) (by decide) (by kernel_rfl) (fun _ X=>Zz W X) (fun i X v=>match i with
    |0=>v=.agg A.toArray
    |1=>v=.agg #[.int .i64 r,.string N,.int .i64 P,.string L,.int .i64 J,.int .i64 H]
    |2=>v=.pointer (some ⟨w.heap.size,4,none⟩)
    |3=>v=.agg #[.int .i64 u.O,.int .i64 u.D,.int .i64 u.G,.int .i64 u.C,.slice a.T u.ks.length a.U,.slice a.L u.ps.length a.Q,.slice a.J u.ls.length a.P]
    |4=>∃s,v=.string s
    |5=>v=.pointer (some ⟨w.heap.size+1,5,none⟩)
    |6=>v=.int .i64 H
    |7=>∃d j,v=.agg (dL d j).toArray/\RV W.heap.size X j
    |_=>True) (fun X Y=>Zz X Y) ?_ (Below.refl _ _).drew ?_ ?_
   .intro i X Y v Z G;rcases i with _|_|_|_|_|_|_|_|_<;>first
     |exact G
     |exact IC G Z
     |exact ID G Z
   .intro i o k x X hi ho hk f F K q;rcases(show i=0\/i=1\/i=2\/i=3\/i=4\/i=5\/i=6\/i=7 by omega)with rfl|rfl|rfl|rfl|rfl|rfl|rfl|rfl<;>cases ho<;>simp only[Bb,Act.put,Zq,Zp,Zo]at q |-
    .refine wp_load_mid 80 _ rfl w.heap.size 0 rfl A _ (M.o X f).range underlying80 rfl (by rw[S.o];kernel_rfl) ?_;exact q.out _ X rfl (Below.refl _ _) f
    .refine wp_load_mid 102 _ rfl (w.heap.size+1) 0 rfl [.int .i64 r,.string N,.int .i64 P,.string L,.int .i64 J,.int .i64 H] _ (O.o X f).range underlying102 rfl (by kernel_rfl) ?_;exact q.out _ X rfl (Below.refl _ _) f
    .go_simp;exact q.out _ X rfl (Below.refl _ _) f
    .have d2:=F ⟨2,.data⟩ (by simp) (by rfl);rw[show x 2=.pointer (some ⟨w.heap.size,4,none⟩)from d2]at q |-;refine wp_load_mid 27 _ rfl w.heap.size 4 rfl [.int .i64 u.O,.int .i64 u.D,.int .i64 u.G,.int .i64 u.C,.slice a.T u.ks.length a.U,.slice a.L u.ps.length a.Q,.slice a.J u.ls.length a.P] _ (zB.o X f) underlying27 rfl (by kernel_rfl) ?_;exact q.out _ X rfl (Below.refl _ _) f
    .have d1:=F ⟨1,.data⟩ (by simp) (by rfl);have d3:=F ⟨3,.data⟩ (by simp) (by rfl);rw[show x 1=.agg #[.int .i64 r,.string N,.int .i64 P,.string L,.int .i64 J,.int .i64 H]from d1,show x 3=.agg #[.int .i64 u.O,.int .i64 u.D,.int .i64 u.G,.int .i64 u.C,.slice a.T u.ks.length a.U,.slice a.L u.ps.length a.Q,.slice a.J u.ls.length a.P]from d3]at q |-;go_simp
     refine(Lr r P J H N L u.O u.D u.G u.C a.T a.L a.J a.U u.ps.length a.Q u.ls.length a.P u.ks X (HK.o X f).1 zI (by omega) zJ.o.1).mono ?_;rintro e X' ⟨s,rfl,z⟩;exact q.out _ X' ⟨s,rfl⟩ z (f.trans (z.mono f.size))
    .go_simp;exact q.out _ X rfl (Below.refl _ _) f
    .have d5:=F ⟨5,.data⟩ (by simp) (by rfl);rw[show x 5=.pointer (some ⟨w.heap.size+1,5,none⟩)from d5]at q |-;obtain⟨c1,_⟩:=O.o X f 5 _ rfl;go_simp;exact q.out _ X rfl (Below.refl _ _) f
    .have d0:=F ⟨0,.data⟩ (by simp) (by rfl);have d4:=F ⟨4,.data⟩ (by simp) (by rfl);have d6:=F ⟨6,.data⟩ (by simp) (by rfl);obtain⟨s,e4⟩:=d4;rw[show x 0=.agg A.toArray from d0,e4,show x 6=.int .i64 H from d6]at q |-;go_simp;refine(Qz A s H X (zA.o.below f)).mono ?_;rintro e X' ⟨d,j,rfl,y,z⟩;exact q.out _ X' ⟨d,j,rfl,y.mono f.size⟩ z (f.trans (z.mono f.size))
   .intro x X f G K q;simp only[Bb,Act.put,Zq,Zp,Zo];obtain⟨d,j,e1,y⟩:=G 7 (by decide);have C:Hid _:=T.o d j X f y;obtain⟨D,Q⟩:∃t,t=dL d j:=⟨_,rfl⟩;rw[<-Q]at C e1;rw[e1];clear Q y G;refine wp_store_mid 139 _ _ rfl I.heap.size 0 D.toArray rfl rfl C.o.2.1 (by rw[List.size_toArray,C.o.1.1];kernel_rfl) (all_oneCell_toArray C.o.1.2) ?_;refine q.out _ _ ?_;clear q K;go_wp2_with fail;go_meet
    exact C.o.2.2
  have q4:(r==4)=false:=by simpa using k4
  clear k4;by_cases k5:r=5
  .have q5:(r==5)=true:=by simpa using k5
   clear k5;go_upto_region 12 with fail;refine DN [47,48,49,50,51,52] 6 rfl _ rfl (by kernel_rfl) (by kernel_rfl) (by kernel_rfl) (by kernel_rfl) (by kernel_rfl) (by decide) (by kernel_rfl) (fun _ X=>Zz W X) (fun i X v=>match i with
    |0=>v=.agg A.toArray
    |1=>v=.agg #[.int .i64 r,.string N,.int .i64 P,.string L,.int .i64 J,.int .i64 H]
    |2=>v=.pointer (some ⟨w.heap.size,4,none⟩)
    |3=>v=.agg #[.int .i64 u.O,.int .i64 u.D,.int .i64 u.G,.int .i64 u.C,.slice a.T u.ks.length a.U,.slice a.L u.ps.length a.Q,.slice a.J u.ls.length a.P]
    |4=>∃n,v=.int .i64 n
    |5=>∃d j,v=.agg (dL d j).toArray/\RV W.heap.size X j
    |_=>True) (fun X Y=>Zz X Y) ?_ (Below.refl _ _).drew ?_ ?_
   .intro i X Y v Z G;rcases i with _|_|_|_|_|_|_<;>first
     |exact G
     |exact IC G Z
     |exact ID G Z
   .intro i o k x X hi ho hk f F K q;rcases(show i=0\/i=1\/i=2\/i=3\/i=4\/i=5 by omega)with rfl|rfl|rfl|rfl|rfl|rfl<;>cases ho<;>simp only[Bb,Act.put,Zq,Zp,Zo]at q |-
    .refine wp_load_mid 80 _ rfl w.heap.size 0 rfl A _ (M.o X f).range underlying80 rfl (by rw[S.o];kernel_rfl) ?_;exact q.out _ X rfl (Below.refl _ _) f
    .refine wp_load_mid 102 _ rfl (w.heap.size+1) 0 rfl [.int .i64 r,.string N,.int .i64 P,.string L,.int .i64 J,.int .i64 H] _ (O.o X f).range underlying102 rfl (by kernel_rfl) ?_;exact q.out _ X rfl (Below.refl _ _) f
    .go_simp;exact q.out _ X rfl (Below.refl _ _) f
    .have d2:=F ⟨2,.data⟩ (by simp) (by rfl);rw[show x 2=.pointer (some ⟨w.heap.size,4,none⟩)from d2]at q |-;refine wp_load_mid 27 _ rfl w.heap.size 4 rfl [.int .i64 u.O,.int .i64 u.D,.int .i64 u.G,.int .i64 u.C,.slice a.T u.ks.length a.U,.slice a.L u.ps.length a.Q,.slice a.J u.ls.length a.P] _ (zB.o X f) underlying27 rfl (by kernel_rfl) ?_;exact q.out _ X rfl (Below.refl _ _) f
    .have d1:=F ⟨1,.data⟩ (by simp) (by rfl);have d3:=F ⟨3,.data⟩ (by simp) (by rfl);rw[show x 1=.agg #[.int .i64 r,.string N,.int .i64 P,.string L,.int .i64 J,.int .i64 H]from d1,show x 3=.agg #[.int .i64 u.O,.int .i64 u.D,.int .i64 u.G,.int .i64 u.C,.slice a.T u.ks.length a.U,.slice a.L u.ps.length a.Q,.slice a.J u.ls.length a.P]from d3]at q |-;go_simp
     refine(Oc r P J H N L u.O u.D u.G u.C a.T a.L a.J u.ks.length a.U u.ps.length a.Q a.P u.ls X (HK.o X f).2 zI (by omega) zJ.o.2).mono ?_;rintro e X' ⟨n,rfl,z⟩;exact q.out _ X' ⟨n,rfl⟩ z (f.trans (z.mono f.size))
    .have d0:=F ⟨0,.data⟩ (by simp) (by rfl);have d4:=F ⟨4,.data⟩ (by simp) (by rfl);obtain⟨n,e4⟩:=d4;rw[show x 0=.agg A.toArray from d0,e4]at q |-;go_simp;refine(NW A n X (zA.o.below f)).mono ?_;rintro e X' ⟨d,j,rfl,y,z⟩;exact q.out _ X' ⟨d,j,rfl,y.mono f.size⟩ z (f.trans (z.mono f.size))
   .intro x X f G K q;simp only[Bb,Act.put,Zq,Zp,Zo];obtain⟨d,j,e1,y⟩:=G 5 (by decide);have C:Hid _:=T.o d j X f y;obtain⟨D,Q⟩:∃t,t=dL d j:=⟨_,rfl⟩;rw[<-Q]at C e1;rw[e1];clear Q y G;refine wp_store_mid 139 _ _ rfl I.heap.size 0 D.toArray rfl rfl C.o.2.1 (by rw[List.size_toArray,C.o.1.1];kernel_rfl) (all_oneCell_toArray C.o.1.2) ?_;refine q.out _ _ ?_;clear q K;go_wp2_with fail;go_meet
    exact C.o.2.2
  have q5:(r==5)=false:=by simpa using k5
  clear k5;by_cases k6:r=6
  .have q6:(r==6)=true:=by simpa using k6
   clear k6;obtain⟨y1,_⟩:=O.o W (Below.refl _ _) 5 _ rfl;go_wp2_with (refine wpList_load_mid rfl 80 _ rfl w.heap.size 0 rfl A _ (M.o W (Below.refl _ _)).range underlying80 rfl (by rw[S.o];kernel_rfl) ?_);refine(TC A H W zA.o).mono ?_;rintro o w1 ⟨d,j,rfl,y,z⟩;have C:Hid _:=T.o d j w1 z y;obtain⟨D,Q⟩:∃t,t=dL d j:=⟨_,rfl⟩;rw[<-Q]at C;rw[<-Q];clear Q y z HK M zB O T zE y1
   go_wp2_with (refine wpList_store_mid rfl 139 _ _ rfl I.heap.size 0 D.toArray rfl rfl C.o.2.1 (by rw[List.size_toArray,C.o.1.1];kernel_rfl) (all_oneCell_toArray C.o.1.2) ?_);go_meet;exact C.o.2.2
  have q6:(r==6)=false:=by simpa using k6
  clear k6;by_cases k8:r=8
  .have q8:(r==8)=true:=by simpa using k8
   clear k8;go_wp2_with (refine wpList_load_mid rfl 80 _ rfl w.heap.size 0 rfl A _ (M.o W (Below.refl _ _)).range underlying80 rfl (by rw[S.o];kernel_rfl) ?_);refine(Se A W zA.o).mono ?_;rintro o w1 ⟨j,rfl,y,z⟩;have U:Hid (j.length=17/\∀u∈j,u.oneCell'=true):=y.len
   have HE:Hid _:=Ni zE.o (Tn.of (V:=[]) z) (by simp) (show w.heap.size<=w.heap.size+1+1 by omega) (by simp) (by have:=R.o;omega) bW y hm;clear y z HK M zB O T zE;go_wp2_with (refine wpList_store_mid rfl 80 _ _ rfl (w.heap.size+1+1) 0 j.toArray rfl rfl HE.o.1 (by rw[List.size_toArray,U.o.1];kernel_rfl) (all_oneCell_toArray U.o.2) ?_)
   exact bodyPost_ret (AW results62 _ _ (w.heap.size+1+1) j _ rfl (Aa.range HE.o.2.1) underlying80 rfl (by rw[U.o.1];kernel_rfl)) rfl HE.o.2.2
  have q8:(r==8)=false:=by simpa using k8
  clear k8;by_cases k9:r=9
  .have q9:(r==9)=true:=by simpa using k9
   clear k9;obtain⟨y1,_⟩:=O.o W (Below.refl _ _) 4 _ rfl;have yH:J.tmod 6=J%6:=Int.tmod_eq_emod_of_nonneg zI;go_wp2_with (refine wpList_load_mid rfl 80 _ rfl w.heap.size 0 rfl A _ (M.o W (Below.refl _ _)).range underlying80 rfl (by rw[S.o];kernel_rfl) ?_);refine(TK A (J%6) W zA.o (by omega)).mono ?_;rintro o w1 ⟨j,rfl,y,z⟩;have U:Hid (j.length=17/\∀u∈j,u.oneCell'=true):=y.len
   have HE:Hid _:=Ni zE.o (Tn.of (V:=[]) z) (by simp) (show w.heap.size<=w.heap.size+1+1 by omega) (by simp) (by have:=R.o;omega) bW y hm;clear y z HK M zB O T zE;go_wp2_with (refine wpList_store_mid rfl 80 _ _ rfl (w.heap.size+1+1) 0 j.toArray rfl rfl HE.o.1 (by rw[List.size_toArray,U.o.1];kernel_rfl) (all_oneCell_toArray U.o.2) ?_)
   exact bodyPost_ret (AW results62 _ _ (w.heap.size+1+1) j _ rfl (Aa.range HE.o.2.1) underlying80 rfl (by rw[U.o.1];kernel_rfl)) rfl HE.o.2.2
  have q9:(r==9)=false:=by simpa using k9
  clear k9;by_cases k10:r=10
  .have yE:(r==10)=true:=by simpa using k10
   clear k10;obtain⟨y1,_⟩:=O.o W (Below.refl _ _) 4 _ rfl;go_wp2_with (refine wpList_load_mid rfl 80 _ rfl w.heap.size 0 rfl A _ (M.o W (Below.refl _ _)).range underlying80 rfl (by rw[S.o];kernel_rfl) ?_);refine(Sf A J W zA.o).mono ?_;rintro o w1 ⟨c,j,n,E,rfl,ho,y,z⟩;have U:Hid (j.length=17/\∀u∈j,u.oneCell'=true):=y.len
   have HE:Hid _:=Ni zE.o (Tn.of (V:=[]) z) (by simp) (show w.heap.size<=w.heap.size+1+1 by omega) (by simp) (by have:=R.o;omega) bW y hm;obtain⟨a0,a1,a2,a3,a4,a5,a6,a7,a8,a9,zK,zM,zN,zO,zP,zR,zS,rfl⟩:=Hq y.len.1
   have yF:∀X:Zh,(Instr.field 150 (.agg (IP c [a0,a1,a2,a3,a4,a5,a6,a7,a8,a9,zK,zM,zN,zO,zP,zR,zS] n E).toArray) 1).run prog X=.ok (.agg #[a0,a1,a2,a3,a4,a5,a6,a7,a8,a9,zK,zM,zN,zO,zP,zR,zS]) X:=fun _=>by kernel_rfl
   clear y z HK M zB O T zE;go_wp2_with (refine wpList_store_mid rfl 80 _ _ rfl (w.heap.size+1+1) 0 [a0,a1,a2,a3,a4,a5,a6,a7,a8,a9,zK,zM,zN,zO,zP,zR,zS].toArray rfl rfl HE.o.1 (by rw[List.size_toArray,U.o.1];kernel_rfl) (all_oneCell_toArray U.o.2) ?_)
   exact bodyPost_ret (AW results62 _ _ (w.heap.size+1+1) [a0,a1,a2,a3,a4,a5,a6,a7,a8,a9,zK,zM,zN,zO,zP,zR,zS] _ rfl (Aa.range HE.o.2.1) underlying80 rfl (by rw[U.o.1];kernel_rfl)) rfl HE.o.2.2
  have yE:(r==10)=false:=by simpa using k10
  clear k10;go_wp2_with fail;go_meet;exact⟨_,Bz,zY.o,Vb _ _,Tn.of (Below.refl _ _)⟩
 case rest=>
  revert wc;intro wc hcut;obtain⟨d,j,xD,y,tW⟩:=hcut.o;clear hcut;have zG:Hid (j.length=17/\∀u∈j,u.oneCell'=true):=y.len;obtain⟨c0,_,_,_,_,rD⟩:=Wi xD zG.o.1;have HE:Hid _:=Ni HX.o.2.2.1 tW (by simp;have:=R.o;omega) (show w.heap.size<=w.heap.size+1+1 by omega) (by simp;have:=R.o;omega) (by have:=R.o;omega) R.o.1 (y.mono (Zx)) hm
  have zT:Hid _:=Wo HX.o.2.2.1 tW (by simp;have:=R.o;omega) (show w.heap.size<=w.heap.size+1+1 by omega) (by simp;have:=R.o;omega) (by have:=R.o;omega) R.o.1 HV.o;have M:Hid (wc.rangeAt w.heap.size 0 A):=(Aa.same HX.o.1 (tW.block _ (by have:=R.o;omega) (by simp;have:=R.o;omega))).range;have yA:Hid (wc.rangeAt I.heap.size 1 j):=rD;clear rD xD y tW HX R;by_cases hc:d.c=0
  .have yB:(d.c==0)=true:=by simpa using hc
   clear hc;go_wp2_with (first
    |refine wpList_load_mid rfl 80 _ rfl I.heap.size 1 rfl j _ yA.o underlying80 rfl (by rw[zG.o.1];kernel_rfl) ?_
    |refine wpList_store_mid rfl 80 _ _ rfl (w.heap.size+1+1) 0 j.toArray rfl rfl HE.o.1 (by rw[List.size_toArray,zG.o.1];kernel_rfl) (all_oneCell_toArray zG.o.2) ?_)
   exact bodyPost_ret (AW results62 _ _ (w.heap.size+1+1) j _ rfl (Aa.range HE.o.2.1) underlying80 rfl (by rw[zG.o.1];kernel_rfl)) rfl HE.o.2.2
  .have yB:(d.c==0)=false:=by simpa using hc
   clear hc;go_wp2_with (first
    |refine wpList_load_mid rfl 80 _ rfl w.heap.size 0 rfl A _ M.o underlying80 rfl (by rw[S.o];kernel_rfl) ?_
    |refine wpList_store_mid rfl 80 _ _ rfl (w.heap.size+1+1) 0 A.toArray rfl rfl zT.o.1 (by rw[List.size_toArray,S.o];kernel_rfl) (all_oneCell_toArray zZ.o) ?_)
   exact bodyPost_ret (AW results62 _ _ (w.heap.size+1+1) A _ rfl (Aa.range zT.o.2.1) underlying80 rfl (by rw[S.o];kernel_rfl)) rfl zT.o.2.2
end Go.Proofs.YtmjlkgpekcnacaaGreat
