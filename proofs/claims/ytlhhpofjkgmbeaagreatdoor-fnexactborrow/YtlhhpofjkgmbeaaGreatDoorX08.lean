import Derived.Test.YtlhhpofjkgmbeaaGreatDoorX07
import Derived.Laws.IdiomCopy
import Derived.Laws.NewBlocks
import Derived.Laws.AppendOwn
import Derived.Lib.AppendZerosOnto
import Derived.Lib.Overlaps
import Derived.Lib.Walk
set_option maxRecDepth 100000
set_option maxHeartbeats 16000000
namespace Go.Proofs.YtlhhpofjkgmbeaaGreatDoor
open Go.ChangeShapes Go.WideShapes Go.ChangeAt Go.RowKit _root_.Go.Proofs.Tryz
theorem BX{w:Zh}{base:Nat}{e:TypeId}{size:Nat}{v:Value}{n:Nat}{d:Zj}(h:w.ownsRow base e size v n d){g:Nat}(b:v.ownBlock=some g):∃a,w.heap[g]?=some (.cells a e):=by
 rcases h.2 with⟨rfl,_⟩|⟨i,f,a,rfl,_,c,_⟩
 ·cases b
 ·cases b;exact⟨a,c⟩
theorem DU.cm{w:Zh}{base d m:Nat}{O P L:Value}{s k given ae:Int}{p:List Kd}{r:List Pd}{q:List Ld}(h:DU w base d m O P L s k given ae p r q){R:Nat}{i:Array Value}(g:w.heap[R]?=some (.cells i 82))(o:R≠d):R∉vB d m O P L/\NS w R:=by
 refine⟨fun a=> ?_,fun i u e=>by rw[g]at e;cases e⟩;unfold vB at a;simp only[List.mem_cons,List.mem_append,Option.mem_toList]at a;rcases a with a|a|a|a|a
 ·exact o a
 ·obtain⟨n,f,_,l,_⟩:=h.dr.map;obtain⟨D,⟨t,clock,j,_⟩,_⟩:=l;rw[←a,g]at j;cases j
 ·obtain⟨c,b⟩:=BX h.dr.ord a;rw[g]at b;cases b
 ·obtain⟨c,b⟩:=BX h.dr.ci a;rw[g]at b;cases b
 ·obtain⟨c,b⟩:=BX h.dr.ck a;rw[g]at b;cases b
theorem LA(base d m:Nat)(O P L:Value)(K A given ae:Int)(I:List Kd)(J:List Pd)(k:List Ld)(s o t:Zi)(c:Int)(p:Zk)(r q:Nat)(w:Zh)(h:DU w base d m O P L K A given ae I J k)(hl:k.length<=200)(l:k.Pairwise (fun a b=>a.num<b.num))(Y:∃x∈k,x.num=c):
 Calls prog 145 #[Yz d,.agg (Yp 5 s o c t p r q)] w fun e R=>e=.returned (.agg z12.toArray)/\∃L',DU R base d m O P L' K A given ae I J (Bo k c)/\Tn (d::L.ownBlock.toList) w R:=by
 obtain⟨W,f⟩:∃W,W=((w.alloc (.cells (Yp 5 s o c t p r q) 60)).alloc (.cells Yr 82)).alloc (.cells Yr 82):=⟨_,rfl⟩;have H:=(Bm f).1;have E:=(Bm f).2.1;have T:=(Bm f).2.2.1;have X:Aa W (w.heap.size+1) z12:=by have n:=Aa.new (w.alloc (.cells (Yp 5 s o c t p r q) 60)) z12 82;rw[World.size_alloc]at n;rw[f];exact Aa.below (v:=Zf) n (Zy)
 have U:Aa W (w.heap.size+2) z12:=by have n:=Aa.new ((w.alloc (.cells (Yp 5 s o c t p r q) 60)).alloc (.cells Yr 82)) z12 82;rw[World.size_alloc,World.size_alloc]at n;rw[f];exact n
 have C:W.heap[w.heap.size+1]?=some (.cells Yr 82):=by rw[f,Below.heap_alloc _ _ _ (by simp)];have:=heap_alloc_new (w.alloc (.cells (Yp 5 s o c t p r q) 60)) (.cells Yr 82);rw[World.size_alloc]at this;exact this
 have Q:=h.below H;have zB:=h.dr.box.lt;have D:∀b∈d::L.ownBlock.toList,b<w.heap.size:=fun b j=>h.dr.cg b (by unfold vB;simp at j ⊢;rcases j with rfl|j<;>simp[*]);have M:=Yx (Us base d m O P L K A given ae I J k c W Q hl l Y);have N:=Yx f
 have i:Hid (Aa W (w.heap.size+1) z12/\Aa W (w.heap.size+2) z12/\W.heap[w.heap.size+1]?=some (.cells Yr 82)/\Zz w W/\W.heap.size=w.heap.size+3/\base<=w.heap.size):=⟨X,U,C,H,E,h.lo⟩;have y:=Yx D;obtain⟨e0,e1,e2,e3⟩:=Aa.c4 T 0 1 2 3;clear f h Q X U C H E T D;go_enter func145,ntmps145;go_upto_region 2 with fail;rw[←N.o];clear N;go_wp2_with fail;refine Calls.mono M.o ?_;rintro e S ⟨rfl,V,z,g⟩
 have zz:=i.o.2.2.2.2.1;have G:=Aa.same i.o.1 (g.block _ (by omega) (fun h=>by have:=y.o _ h;omega));have F:=Aa.same i.o.2.1 (g.block _ (by omega) (fun h=>by have:=y.o _ h;omega));have B:=(g.block _ (by omega) (fun h=>by have:=y.o _ h;omega)).trans i.o.2.2.1;have u:=Yx (Zn z (Zn g (z.cm B (by omega))))
 obtain⟨⟨y0,q0⟩,⟨y1,q1⟩,⟨y2,q2⟩,⟨y3,q3⟩,⟨y4,q4⟩,⟨y5,q5⟩,⟨y6,q6⟩,⟨y7,q7⟩,⟨y8,q8⟩,⟨y9,q9⟩,⟨Z,zC⟩,zA,zE⟩:=AT G;obtain⟨⟨v0,_⟩,⟨v1,_⟩,⟨v2,_⟩,⟨v3,_⟩,⟨v4,_⟩,⟨v5,_⟩,⟨v6,_⟩,⟨v7,_⟩,⟨v8,_⟩,⟨v9,_⟩,⟨zF,_⟩,zG,_⟩:=AT F;clear z g G F B e0 e1 e2 e3 M zz;go_wp2
 refine bodyPost_ret (v:=.agg z12.toArray) (by simp[results,results145,go_sem,y0,y1,y2,y3,y4,y5,y6,y7,y8,y9,Z,zA,z12]) rfl ⟨rfl,V,u.o.1.an (Bh S (w.heap.size+1) _ _ _ _ _ _ _ _ _ _ _ _) (by intro b j;simp at j;subst j;exact⟨by have:=i.o.2.2.2.2.2;omega,u.o.2.2⟩),Tn.fresh ((Tn.of i.o.2.2.2.1).trans u.o.2.1) (Bh S (w.heap.size+1) _ _ _ _ _ _ _ _ _ _ _ _) (by omega)⟩
theorem LB(base d m:Nat)(O P L:Value)(H c given ae:Int)(F:List Kd)(G:List Pd)(x:List Ld)(s l q:Zi)(a:Int)(n:Zk)(p o:Nat)(w:Zh)(h:DU w base d m O P L H c given ae F G x)(hl:x.length<=200)(T:0<=c)(U:0<=a)(hs:c+a<=1000000000):
 Calls prog 145 #[Yz d,.agg (Yp 6 s l a q n p o)] w fun e M=>e=.returned (.agg z12.toArray)/\∃Z,DU M base d m O P Z H (c+a) given ae F G (AK x (c+a))/\Tn (d::L.ownBlock.toList) w M:=by
 obtain⟨W,f⟩:∃W,W=((w.alloc (.cells (Yp 6 s l a q n p o) 60)).alloc (.cells Yr 82)).alloc (.cells Yr 82):=⟨_,rfl⟩;have E:=(Bm f).1;have B:=(Bm f).2.1;have Q:=(Bm f).2.2.1;have S:Aa W (w.heap.size+1) z12:=by have k:=Aa.new (w.alloc (.cells (Yp 6 s l a q n p o) 60)) z12 82;rw[World.size_alloc]at k;rw[f];exact Aa.below (v:=Zf) k (Zy)
 have R:Aa W (w.heap.size+2) z12:=by have k:=Aa.new ((w.alloc (.cells (Yp 6 s l a q n p o) 60)).alloc (.cells Yr 82)) z12 82;rw[World.size_alloc,World.size_alloc]at k;rw[f];exact k
 have z:W.heap[w.heap.size+1]?=some (.cells Yr 82):=by rw[f,Below.heap_alloc _ _ _ (by simp)];have:=heap_alloc_new (w.alloc (.cells (Yp 6 s l a q n p o) 60)) (.cells Yr 82);rw[World.size_alloc]at this;exact this
 have K:=h.below E;have zA:=h.dr.box.lt;have A:∀b∈d::L.ownBlock.toList,b<w.heap.size:=fun b j=>h.dr.cg b (by unfold vB;simp at j ⊢;rcases j with rfl|j<;>simp[*]);have I:=Yx (Ux base d m O P L H c given ae F G x a W K hl T U hs);have J:=Yx f
 have i:Hid (Aa W (w.heap.size+1) z12/\Aa W (w.heap.size+2) z12/\W.heap[w.heap.size+1]?=some (.cells Yr 82)/\Zz w W/\W.heap.size=w.heap.size+3/\base<=w.heap.size):=⟨S,R,z,E,B,h.lo⟩;have t:=Yx A;obtain⟨e0,e1,e2,e3⟩:=Aa.c4 Q 0 1 2 3;clear f h K S R z E B Q A;go_enter func145,ntmps145;go_upto_region 2 with fail;rw[←J.o];clear J;go_wp2_with fail;refine Calls.mono I.o ?_;rintro e N ⟨rfl,V,u,g⟩
 have zz:=i.o.2.2.2.2.1;have D:=Aa.same i.o.1 (g.block _ (by omega) (fun h=>by have:=t.o _ h;omega));have C:=Aa.same i.o.2.1 (g.block _ (by omega) (fun h=>by have:=t.o _ h;omega));have y:=(g.block _ (by omega) (fun h=>by have:=t.o _ h;omega)).trans i.o.2.2.1;have r:=Yx (Zn u (Zn g (u.cm y (by omega))))
 obtain⟨⟨y0,q0⟩,⟨y1,q1⟩,⟨y2,q2⟩,⟨y3,q3⟩,⟨y4,q4⟩,⟨y5,q5⟩,⟨y6,q6⟩,⟨y7,q7⟩,⟨y8,q8⟩,⟨y9,q9⟩,⟨X,zB⟩,Y,zC⟩:=AT D;obtain⟨⟨v0,_⟩,⟨v1,_⟩,⟨v2,_⟩,⟨v3,_⟩,⟨v4,_⟩,⟨v5,_⟩,⟨v6,_⟩,⟨v7,_⟩,⟨v8,_⟩,⟨v9,_⟩,⟨zE,_⟩,zF,_⟩:=AT C;clear u g D C y e0 e1 e2 e3 I zz;go_wp2
 refine bodyPost_ret (v:=.agg z12.toArray) (by simp[results,results145,go_sem,y0,y1,y2,y3,y4,y5,y6,y7,y8,y9,X,Y,z12]) rfl ⟨rfl,V,r.o.1.an (Bh N (w.heap.size+1) _ _ _ _ _ _ _ _ _ _ _ _) (by intro b j;simp at j;subst j;exact⟨by have:=i.o.2.2.2.2.2;omega,r.o.2.2⟩),Tn.fresh ((Tn.of i.o.2.2.2.1).trans r.o.2.1) (Bh N (w.heap.size+1) _ _ _ _ _ _ _ _ _ _ _ _) (by omega)⟩
theorem KQ(base d m:Nat)(O P L:Value)(K A given ae:Int)(I:List Kd)(l:List Pd)(J:List Ld)(s f t:Zi)(i:Int)(p:Zk)(r q:Nat)(w:Zh)(h:DU w base d m O P L K A given ae I l J)(hl:l.length<=200)(n:l.Pairwise (fun a b=>less a.name b.name=true))(Y:∃x∈l,x.name=f):
 Calls prog 145 #[Yz d,.agg (Yp 3 s f i t p r q)] w fun e R=>e=.returned (.agg z12.toArray)/\∃P',DU R base d m O P' L K A given ae I (AY l f) J/\Tn (d::P.ownBlock.toList) w R:=by
 obtain⟨W,c⟩:∃W,W=((w.alloc (.cells (Yp 3 s f i t p r q) 60)).alloc (.cells Yr 82)).alloc (.cells Yr 82):=⟨_,rfl⟩;have H:=(Bm c).1;have E:=(Bm c).2.1;have T:=(Bm c).2.2.1;have X:Aa W (w.heap.size+1) z12:=by have o:=Aa.new (w.alloc (.cells (Yp 3 s f i t p r q) 60)) z12 82;rw[World.size_alloc]at o;rw[c];exact Aa.below (v:=Zf) o (Zy)
 have U:Aa W (w.heap.size+2) z12:=by have o:=Aa.new ((w.alloc (.cells (Yp 3 s f i t p r q) 60)).alloc (.cells Yr 82)) z12 82;rw[World.size_alloc,World.size_alloc]at o;rw[c];exact o
 have C:W.heap[w.heap.size+1]?=some (.cells Yr 82):=by rw[c,Below.heap_alloc _ _ _ (by simp)];have:=heap_alloc_new (w.alloc (.cells (Yp 3 s f i t p r q) 60)) (.cells Yr 82);rw[World.size_alloc]at this;exact this
 have Q:=h.below H;have zB:=h.dr.box.lt;have D:∀b∈d::P.ownBlock.toList,b<w.heap.size:=fun b k=>h.dr.cg b (by unfold vB;simp at k ⊢;rcases k with rfl|k<;>simp[*]);have M:=Yx (St base d m O P L K A given ae I l J f W Q hl n Y);have N:=Yx c
 have j:Hid (Aa W (w.heap.size+1) z12/\Aa W (w.heap.size+2) z12/\W.heap[w.heap.size+1]?=some (.cells Yr 82)/\Zz w W/\W.heap.size=w.heap.size+3/\base<=w.heap.size):=⟨X,U,C,H,E,h.lo⟩;have y:=Yx D;obtain⟨e0,e1,e2,e3⟩:=Aa.c4 T 0 1 2 3;clear c h Q X U C H E T D;go_enter func145,ntmps145;go_upto_region 2 with fail;rw[←N.o];clear N;go_wp2_with fail;refine Calls.mono M.o ?_;rintro e S ⟨rfl,V,z,g⟩
 have zz:=j.o.2.2.2.2.1;have G:=Aa.same j.o.1 (g.block _ (by omega) (fun h=>by have:=y.o _ h;omega));have F:=Aa.same j.o.2.1 (g.block _ (by omega) (fun h=>by have:=y.o _ h;omega));have B:=(g.block _ (by omega) (fun h=>by have:=y.o _ h;omega)).trans j.o.2.2.1;have u:=Yx (Zn z (Zn g (z.cm B (by omega))))
 obtain⟨⟨y0,q0⟩,⟨y1,q1⟩,⟨y2,q2⟩,⟨y3,q3⟩,⟨y4,q4⟩,⟨y5,q5⟩,⟨y6,q6⟩,⟨y7,q7⟩,⟨y8,q8⟩,⟨y9,q9⟩,⟨Z,zC⟩,zA,zE⟩:=AT G;obtain⟨⟨v0,_⟩,⟨v1,_⟩,⟨v2,_⟩,⟨v3,_⟩,⟨v4,_⟩,⟨v5,_⟩,⟨v6,_⟩,⟨v7,_⟩,⟨v8,_⟩,⟨v9,_⟩,⟨zF,_⟩,zG,_⟩:=AT F;clear z g G F B e0 e1 e2 e3 M zz;go_wp2
 refine bodyPost_ret (v:=.agg z12.toArray) (by simp[results,results145,go_sem,y0,y1,y2,y3,y4,y5,y6,y7,y8,y9,Z,zA,z12]) rfl ⟨rfl,V,u.o.1.an (Bh S (w.heap.size+1) _ _ _ _ _ _ _ _ _ _ _ _) (by intro b k;simp at k;subst k;exact⟨by have:=j.o.2.2.2.2.2;omega,u.o.2.2⟩),Tn.fresh ((Tn.of j.o.2.2.2.1).trans u.o.2.1) (Bh S (w.heap.size+1) _ _ _ _ _ _ _ _ _ _ _ _) (by omega)⟩
theorem LC(d:Nat)(s j p:Zi)(g:Int)(m:Zk)(o n:Nat)(c:Int)(a b:Zi)(w:Zh)(h:∀X,Zz w X->Calls prog 176 #[Yz d,.string j] X fun e k=>e=.panicked [{v:=ay c a b,recovered:=false}]/\Zz X k):
 Calls prog 145 #[Yz d,.agg (Yp 3 s j g p m o n)] w fun e k=>e=.panicked [{v:=ay c a b,recovered:=false}]/\Zz w k:=by
 obtain⟨W,f⟩:∃W,W=((w.alloc (.cells (Yp 3 s j g p m o n) 60)).alloc (.cells Yr 82)).alloc (.cells Yr 82):=⟨_,rfl⟩;have i:=(Bm f).1;have q:=(Bm f).2.2.1;have t:=Yx (h W i);have l:=Yx f;obtain⟨u,x,y,z⟩:=Aa.c4 q 0 1 2 3;clear f q h;go_enter func145,ntmps145;go_upto_region 2 with fail;rw[←l.o];clear l;go_wp2_with fail;refine Calls.mono t.o ?_;rintro e A ⟨rfl,r⟩;exact⟨rfl,rfl,i.trans (r.mono i.size)⟩
theorem Im(d:Nat)(s l p:Zi)(f:Int)(m:Zk)(o n:Nat)(c:Int)(a b:Zi)(w:Zh)(h:∀X,Zz w X->Calls prog 174 #[Yz d,.string s,Zg f] X fun e j=>e=.panicked [{v:=ay c a b,recovered:=false}]/\Zz X j):
 Calls prog 145 #[Yz d,.agg (Yp 4 s l f p m o n)] w fun e j=>e=.panicked [{v:=ay c a b,recovered:=false}]/\Zz w j:=by
 obtain⟨W,g⟩:∃W,W=((w.alloc (.cells (Yp 4 s l f p m o n) 60)).alloc (.cells Yr 82)).alloc (.cells Yr 82):=⟨_,rfl⟩;have i:=(Bm g).1;have q:=(Bm g).2.2.1;have t:=Yx (h W i);have k:=Yx g;obtain⟨u,x,y,z⟩:=Aa.c4 q 0 1 2 3;clear g q h;go_enter func145,ntmps145;go_upto_region 2 with fail;rw[←k.o];clear k;go_wp2_with fail;refine Calls.mono t.o ?_;rintro e A ⟨rfl,r⟩;exact⟨rfl,rfl,i.trans (r.mono i.size)⟩
theorem MJ(d:Nat)(s l p:Zi)(f:Int)(m:Zk)(o n:Nat)(c:Int)(a b:Zi)(w:Zh)(h:∀X,Zz w X->Calls prog 177 #[Yz d,Zg f] X fun e j=>e=.panicked [{v:=ay c a b,recovered:=false}]/\Zz X j):
 Calls prog 145 #[Yz d,.agg (Yp 5 s l f p m o n)] w fun e j=>e=.panicked [{v:=ay c a b,recovered:=false}]/\Zz w j:=by
 obtain⟨W,g⟩:∃W,W=((w.alloc (.cells (Yp 5 s l f p m o n) 60)).alloc (.cells Yr 82)).alloc (.cells Yr 82):=⟨_,rfl⟩;have i:=(Bm g).1;have q:=(Bm g).2.2.1;have t:=Yx (h W i);have k:=Yx g;obtain⟨u,x,y,z⟩:=Aa.c4 q 0 1 2 3;clear g q h;go_enter func145,ntmps145;go_upto_region 2 with fail;rw[←k.o];clear k;go_wp2_with fail;refine Calls.mono t.o ?_;rintro e A ⟨rfl,r⟩;exact⟨rfl,rfl,i.trans (r.mono i.size)⟩
theorem ML(d:Nat)(s l p:Zi)(f:Int)(m:Zk)(o n:Nat)(c:Int)(a b:Zi)(w:Zh)(h:∀X,Zz w X->Calls prog 178 #[Yz d,Zg f] X fun e j=>e=.panicked [{v:=ay c a b,recovered:=false}]/\Zz X j):
 Calls prog 145 #[Yz d,.agg (Yp 6 s l f p m o n)] w fun e j=>e=.panicked [{v:=ay c a b,recovered:=false}]/\Zz w j:=by
 obtain⟨W,g⟩:∃W,W=((w.alloc (.cells (Yp 6 s l f p m o n) 60)).alloc (.cells Yr 82)).alloc (.cells Yr 82):=⟨_,rfl⟩;have i:=(Bm g).1;have q:=(Bm g).2.2.1;have t:=Yx (h W i);have k:=Yx g;obtain⟨u,x,y,z⟩:=Aa.c4 q 0 1 2 3;clear g q h;go_enter func145,ntmps145;go_upto_region 2 with fail;rw[←k.o];clear k;go_wp2_with fail;refine Calls.mono t.o ?_;rintro e A ⟨rfl,r⟩;exact⟨rfl,rfl,i.trans (r.mono i.size)⟩
theorem Jh(d:Nat)(s j p:Zi)(g:Int)(m:Zk)(o n:Nat)(c:Int)(a b:Zi)(w:Zh)(h:∀X,Zz w X->Calls prog 175 #[Yz d,.string j,.string s] X fun e k=>e=.panicked [{v:=ay c a b,recovered:=false}]/\Zz X k):
 Calls prog 145 #[Yz d,.agg (Yp 2 s j g p m o n)] w fun e k=>e=.panicked [{v:=ay c a b,recovered:=false}]/\Zz w k:=by
 obtain⟨W,f⟩:∃W,W=((w.alloc (.cells (Yp 2 s j g p m o n) 60)).alloc (.cells Yr 82)).alloc (.cells Yr 82):=⟨_,rfl⟩;have i:=(Bm f).1;have q:=(Bm f).2.2.1;have t:=Yx (h W i);have l:=Yx f;obtain⟨u,x,y,z⟩:=Aa.c4 q 0 1 2 3;clear f q h;go_enter func145,ntmps145;go_upto_region 2 with fail;rw[←l.o];clear l;go_wp2_with fail;refine Calls.mono t.o ?_;rintro e A ⟨rfl,r⟩;exact⟨rfl,rfl,i.trans (r.mono i.size)⟩
theorem KR(base d m:Nat)(O P L:Value)(C i given ae:Int)(A:List Kd)(N:List Pd)(B:List Ld)(s q y:Zi)(a:Int)(r:Zk)(u t:Nat)(w:Zh)(h:DU w base d m O P L C i given ae A N B)(zF:∀k∈A,(k.sum.size:Int)=C)(zH:Ax A s)(hl:B.length<200)(zA:0<=given)(zB:given<1000000000)(zC:0<=i)(zE:i<=1000000000)(zG:0<=a)(c:a<=1000000000):
 Calls prog 145 #[Yz d,.agg (Yp 4 s q a y r u t)] w fun e T=>e=.returned (.agg #[Zf,Zf,Zf,Zf,Zf,Zc,Zc,Zc,Zd,Zg (given+1),Zd,Zd])/\∃L',DU T base d m O P L' C i (given+1) ae A N (B++[⟨given+1,s,i+a⟩])/\Tn (d::L.ownBlock.toList) w T:=by
 obtain⟨W,f⟩:∃W,W=((w.alloc (.cells (Yp 4 s q a y r u t) 60)).alloc (.cells Yr 82)).alloc (.cells Yr 82):=⟨_,rfl⟩;have M:=(Bm f).1;have I:=(Bm f).2.1;have X:=(Bm f).2.2.1;have Z:Aa W (w.heap.size+1) z12:=by have z:=Aa.new (w.alloc (.cells (Yp 4 s q a y r u t) 60)) z12 82;rw[World.size_alloc]at z;rw[f];exact Aa.below (v:=Zf) z (Zy)
 have Y:Aa W (w.heap.size+2) z12:=by have z:=Aa.new ((w.alloc (.cells (Yp 4 s q a y r u t) 60)).alloc (.cells Yr 82)) z12 82;rw[World.size_alloc,World.size_alloc]at z;rw[f];exact z
 have G:W.heap[w.heap.size+1]?=some (.cells Yr 82):=by rw[f,Below.heap_alloc _ _ _ (by simp)];have:=heap_alloc_new (w.alloc (.cells (Yp 4 s q a y r u t) 60)) (.cells Yr 82);rw[World.size_alloc]at this;exact this
 have E:W.heap[w.heap.size+2]?=some (.cells Yr 82):=by have:=heap_alloc_new ((w.alloc (.cells (Yp 4 s q a y r u t) 60)).alloc (.cells Yr 82)) (.cells Yr 82);rw[World.size_alloc,World.size_alloc]at this;rw[f];exact this
 have S:=h.below M;have zK:=h.dr.box.lt;have H:∀b∈d::L.ownBlock.toList,b<w.heap.size:=fun b g=>h.dr.cg b (by unfold vB;simp at g ⊢;rcases g with rfl|g<;>simp[*]);have Q:=Yx (NJ base d m O P L C i given ae A N B s a W S zF zH hl zA zB zC zE zG c);have R:=Yx f
 have j:Hid (Aa W (w.heap.size+1) z12/\Aa W (w.heap.size+2) z12/\W.heap[w.heap.size+1]?=some (.cells Yr 82)/\W.heap[w.heap.size+2]?=some (.cells Yr 82)/\Zz w W/\W.heap.size=w.heap.size+3/\base<=w.heap.size):=⟨Z,Y,G,E,M,I,h.lo⟩;have n:=Yx H;obtain⟨e0,e1,e2,e3⟩:=Aa.c4 X 0 1 2 3;clear f h S Z Y G E M I X H;go_enter func145,ntmps145;go_upto_region 2 with fail;rw[←R.o];clear R;go_wp2_with fail
 refine Calls.mono Q.o ?_;rintro e U ⟨rfl,V,p,c⟩;have zz:=j.o.2.2.2.2.2.1;have K:=Aa.same j.o.1 (c.block _ (by omega) (fun h=>by have:=n.o _ h;omega));have J:=Aa.same j.o.2.1 (c.block _ (by omega) (fun h=>by have:=n.o _ h;omega));have F:=(c.block _ (by omega) (fun h=>by have:=n.o _ h;omega)).trans j.o.2.2.1;have D:=(c.block _ (by omega) (fun h=>by have:=n.o _ h;omega)).trans j.o.2.2.2.1
 have l:=Yx (Zn p (Zn c (Zn (p.cm F (by omega)) (p.cm D (by omega)))));obtain⟨⟨y0,q0⟩,⟨y1,q1⟩,⟨y2,q2⟩,⟨y3,q3⟩,⟨y4,q4⟩,⟨y5,q5⟩,⟨y6,q6⟩,⟨y7,q7⟩,⟨y8,q8⟩,⟨y9,q9⟩,⟨zI,zP⟩,zJ,zS⟩:=AT K;obtain⟨⟨v0,p0⟩,⟨v1,p1⟩,⟨v2,p2⟩,⟨v3,p3⟩,⟨v4,p4⟩,⟨v5,p5⟩,⟨v6,p6⟩,⟨v7,p7⟩,⟨v8,p8⟩,⟨v9,p9⟩,⟨zT,zM⟩,zU,zN⟩:=AT J;clear p c K J F D e0 e1 e2 e3 Q zz;go_wp2
 refine bodyPost_ret (v:=.agg #[Zf,Zf,Zf,Zf,Zf,Zc,Zc,Zc,Zd,Zg (given+1),Zd,Zd]) (by simp[results,results145,go_sem,y0,y1,y2,y3,y4,y5,y6,y7,y8,y9,zI,zJ]) rfl ?_
 have o:=(Tn.set (V:=[w.heap.size+1,w.heap.size+2]) U (w.heap.size+2) 9 (Zg (given+1)) (by simp)).trans (Tn.mono (Bh (U.setCell (Ze (w.heap.size+2) 9) (Zg (given+1))) (w.heap.size+1) Zf Zf Zf Zf Zf Zc Zc Zc Zd (Zg (given+1)) Zd Zd) (by simp));refine⟨rfl,V,l.o.1.an o (by intro b g;simp at g;have:=j.o.2.2.2.2.2.2;rcases g with rfl|rfl;exact⟨by omega,l.o.2.2.1⟩;exact⟨by omega,l.o.2.2.2⟩),?_⟩
 have x:=(Tn.of (V:=d::L.ownBlock.toList) j.o.2.2.2.2.1).trans l.o.2.1;exact⟨o.os.trans x.os,o.tape.trans x.tape,o.output.trans x.output,Zm x.size o.size,fun b g hv=>(o.block b (Zr g x.size) (by simp;omega)).trans (x.block b g hv)⟩
def Bl(ps:List Pd)(n s:Zi):List Pd:=ps.filter (fun x=>less x.name n)++[⟨n,s⟩]++ps.filter (fun x=> !(less x.name n)&& !decide (x.name=n))
theorem Dx.split{b:List Pd}{n:Zi}{i:Nat}(h:Dx b n i):b.filter (fun x=>less x.name n)=b.take i:=by
 have e:=(List.take_append_drop i b).symm
 conv=>lhs;rw[e]
 rw[List.filter_append,List.filter_eq_self.2 (fun x c=> ?_),List.filter_eq_nil_iff.2 (fun x c=> ?_),List.append_nil]
 ·obtain⟨j,a⟩:=List.getElem?_of_mem c;rw[List.getElem?_drop]at a;rw[h.hi (i+j) x (by omega) a];simp
 ·obtain⟨j,a⟩:=List.getElem?_of_mem c;have d:=(Zw a).1;rw[List.length_take]at d;rw[List.getElem?_take_of_lt (by omega)]at a;exact h.lo j x (by omega) a
theorem Dx.gh{b:List Pd}{n:Zi}{i:Nat}(h:Dx b n i):b.filter (fun x=> !(less x.name n)&& !decide (x.name=n))=(b.drop i).filter (fun x=> !decide (x.name=n)):=by
 have e:=(List.take_append_drop i b).symm
 conv=>lhs;rw[e]
 rw[List.filter_append,List.filter_eq_nil_iff.2 (fun x c=> ?_),List.nil_append]
 ·refine List.filter_congr (fun x c=> ?_);obtain⟨j,a⟩:=List.getElem?_of_mem c;rw[List.getElem?_drop]at a;rw[h.hi (i+j) x (by omega) a];simp
 ·obtain⟨j,a⟩:=List.getElem?_of_mem c;have d:=(Zw a).1;rw[List.length_take]at d;rw[List.getElem?_take_of_lt (by omega)]at a;rw[h.lo j x (by omega) a];simp
theorem Pb{a:List Pd}{n s:Zi}{i:Nat}(h:Dx a n i)(b:¬∃x∈a,x.name=n):Bl a n s=a.take i++[⟨n,s⟩]++a.drop i:=by unfold Bl;rw[h.split,h.gh,List.filter_eq_self.2 (fun x d=> ?_)];have c:x.name≠n:=fun e=>b ⟨x,List.mem_of_mem_drop d,e⟩;simpa using c
theorem Uz{d:List Pd}{n s:Zi}{i:Nat}{x:Pd}(h:Dx d n i)(q:d[i]?=some x)(k:x.name=n)(c:d.Pairwise (fun a b=>less a.name b.name=true)):Bl d n s=d.set i ⟨n,s⟩:=by
 obtain⟨f,e⟩:=Zw q;unfold Bl;rw[h.split,h.gh,List.drop_eq_getElem_cons f,List.filter_cons,e,k];simp only[decide_true,Bool.not_true,Bool.false_eq_true,if_false];rw[List.filter_eq_self.2 (fun y r=> ?_),List.set_eq_take_append_cons_drop,if_pos f,List.append_assoc]
 ·rfl
 ·obtain⟨j,g⟩:=List.getElem?_of_mem r;rw[List.getElem?_drop]at g;obtain⟨l,o⟩:=Zw g;have:=List.pairwise_iff_getElem.1 c i (i+1+j) f l (by omega);rw[e,o,k]at this;have m:y.name≠n:=fun p=>by rw[p,Ch]at this;cases this
  simpa using m
def Dy(ps:List Pd)(n:Zi):Bool:= !(ps.all (fun x=>less x.name n))
def BM(ps:List Pd)(n s:Zi):List Pd:=ps.filter (fun x=>less x.name n)++(if Dy ps n then [⟨n,s⟩]else [])++ps.filter (fun x=> !(less x.name n)&& !decide (x.name=n))
theorem Hi{a:List Pd}{k:Nat}{x:Pd}(n:Zi)(c:a[k]?=some x):Dy (a.take (k+1)) n=(Dy (a.take k) n|| !(less x.name n)):=by obtain⟨b,rfl⟩:=Zw c;unfold Dy;rw[Zu b,List.all_append];simp
theorem Fs{a:List Pd}{n:Zi}(h:Dy a n=false):a.filter (fun x=> !(less x.name n)&& !decide (x.name=n))=[]:=by
 rw[List.filter_eq_nil_iff];intro x b;have:less x.name n=true:=by unfold Dy at h;simp only[Bool.not_eq_false']at h;exact List.all_eq_true.1 h x b
 simp[this]
theorem QT{a:List Pd}{k:Nat}{x:Pd}(n s:Zi)(e:a[k]?=some x)(c:Dy (a.take k) n=false)(d:less x.name n=true):BM (a.take (k+1)) n s=BM (a.take k) n s++[x]:=by have b:=Hi n e;rw[c,d]at b;unfold BM;rw[Fs c,Fs (by rw[b];rfl),b,c];obtain⟨f,rfl⟩:=Zw e;rw[Zu f,List.filter_append];simp[d]
theorem Wm{a:List Pd}{k:Nat}{x:Pd}(n s:Zi)(e:a[k]?=some x)(b:Dy (a.take k) n=false)(d:less x.name n=false):BM (a.take (k+1)) n s=BM (a.take k) n s++[⟨n,s⟩]++(if x.name=n then []else [x]):=by
 have c:=Hi n e;rw[b,d]at c;unfold BM;rw[Fs b,c,b];have g:=Fs b;obtain⟨f,rfl⟩:=Zw e;rw[Zu f,List.filter_append,List.filter_append,g];by_cases hn:a[k].name=n
 ·simp[hn,Ch]
 ·simp[d,hn]
theorem SE{d:List Pd}{k:Nat}{x:Pd}(n s:Zi)(g:d.Pairwise (fun a b=>less a.name b.name=true))(p:d[k]?=some x)(i:Dy (d.take k) n=true):x.name≠n/\BM (d.take (k+1)) n s=BM (d.take k) n s++[x]:=by
 have m:=Hi n p;rw[i,Bool.true_or]at m;obtain⟨l,rfl⟩:=Zw p;obtain⟨y,v,f⟩:∃y∈d.take k,less y.name n=false:=by unfold Dy at i;simpa using i
 obtain⟨j,t⟩:=List.getElem?_of_mem v;obtain⟨q,e⟩:=Zw t;rw[List.length_take]at q;rw[List.getElem_take]at e;have c:=List.pairwise_iff_getElem.1 g j k (by omega) l (by omega);rw[e]at c;have u:less d[k].name n=false:=by
  cases h:less d[k].name n with
  |false=>rfl
  |true=>rw[Cl c h]at f;cases f
 have o:d[k].name≠n:=fun r=>by rw[r]at c;rw[c]at f;cases f
 refine⟨o,?_⟩;unfold BM;rw[m,i,Zu l,List.filter_append,List.filter_append];simp[u,o]
theorem UA{a:List Pd}(n s:Zi)(b:Dy a n=true):BM a n s=Bl a n s:=by unfold BM Bl;rw[b];rfl
theorem Wn{a:List Pd}(n s:Zi)(b:Dy a n=false):BM a n s++[⟨n,s⟩]=Bl a n s:=by unfold BM Bl;rw[b,Fs b];simp
theorem Kl(a:List Pd)(n s:Zi):(BM a n s).length<=a.length+1:=by
 have h:∀(l:List Pd),(l.filter (fun x=>less x.name n)).length+(l.filter (fun x=> !(less x.name n)&& !decide (x.name=n))).length<=l.length:=by
  intro l;induction l with
  |nil=>simp
  |cons x l ih=>rw[List.filter_cons,List.filter_cons];cases less x.name n<;>by_cases hn:x.name=n<;>simp[hn]<;>omega
 have:=h a;unfold BM;rw[List.length_append,List.length_append];split<;>simp<;>omega
def VF(w w':Zh)(e:Ending)(wd now given ae:Int)(T L:Value)(ps:List Pd)(n s:Zi):Prop:=
 Below w.heap.size w w'/\((100<(Bl ps n s).length/\e=.returned (.agg #[Zg 4,Zf,Zf,Zf,Zf,Zc,Zc,Zc,Zd,Zf,Zd,Zd]))∨
  ((Bl ps n s).length<=100/\∃g c,e=.returned (.agg #[Zf,Zg wd,Zg now,Zg given,Zg ae,T,.slice (some ⟨g,0,none⟩) (Bl ps n s).length c,L,Zd,Zf,Zd,Zd])/\w'.ownsRow w.heap.size 137 2 (.slice (some ⟨g,0,none⟩) (Bl ps n s).length c) (Bl ps n s).length (Ab pC (Bl ps n s))))
theorem SF(I R given ae kind zM:Int)(ta pa la ra:Zk)(tc pc lc ln rn rc:Nat)(O:List Kd)(d:List Pd)(n s text:Zi)(w:Zh)(yU:BH w w.heap.size ta O)(zY:AS w w.heap.size pa d)(xP:O.length<=1000)(hl:d.length<=1000)(yW:Ax O s)(zH:d.Pairwise (fun a b=>less a.name b.name=true)):
 Calls prog 76 #[.agg (Ys I R given ae ta O.length tc pa d.length pc la ln lc),.agg (Yp kind s n zM text ra rn rc)] w fun e w'=>VF w w' e I R given ae (.slice ta O.length tc) (.slice la ln lc) d n s:=by
 obtain⟨W,hW⟩:∃W,W=((w.alloc (.cells (Ys I R given ae ta O.length tc pa d.length pc la ln lc) 40)).alloc (.cells (Yp kind s n zM text ra rn rc) 60)).alloc (.cells Yr 82):=⟨_,rfl⟩;have bW:=(Bm hW).1;have xF:=(Bm hW).2.1;have x0:=(Bm hW).2.2.1;have xe:Aa W (w.heap.size+1) (Yo kind s n zM text ra rn rc):=by have h1:=Aa.new (w.alloc (.cells (Ys I R given ae ta O.length tc pa d.length pc la ln lc) 40)) (Yo kind s n zM text ra rn rc) 60;rw[World.size_alloc]at h1;rw[hW];exact Aa.below h1 (Zy)
 have x1:Aa W (w.heap.size+2) z12:=by have h1:=Aa.new ((w.alloc (.cells (Ys I R given ae ta O.length tc pa d.length pc la ln lc) 40)).alloc (.cells (Yp kind s n zM text ra rn rc) 60)) z12 82;rw[World.size_alloc,World.size_alloc]at h1;rw[hW];exact h1
 have yQ:=Yx (FE I R given ae ta tc (.slice pa d.length pc) (.slice la ln lc) O s W w.heap.size (BH.below yU bW) bW.size (by omega));have xN:¬CE O s<0:=by
  rcases FT O s with⟨_,hn⟩|⟨i,k,e,_⟩
  ·exact absurd yW hn
  ·omega
 have l:Hid (∀X,Below (w.heap.size+3) W X->Aa X w.heap.size (Yt I R given ae ta O.length tc pa d.length pc la ln lc)/\Aa X (w.heap.size+1) (Yo kind s n zM text ra rn rc)/\Aa X (w.heap.size+2) z12):=fun X hX=>⟨Aa.same x0 (hX.block _ (by omega)),Aa.same xe (hX.block _ (by omega)),Aa.same x1 (hX.block _ (by omega))⟩;have HW:=Yx hW;have f:w.heap.size+3<=W.heap.size:=by omega
 have HR:Hid (AS w w.heap.size pa d):=zY;have yP:Hid (Zz w W):=bW;have xA:=Yx zH;obtain⟨v0,p,r,t,u,y,z,S⟩:=Bw x0;obtain⟨o,_⟩:=xe 1 _ rfl;clear hW xF x0 x1 xe zY bW yU yW zH;go_enter func76,ntmps76;go_upto_region 1 with fail;rw[←HW.o];clear HW;go_wp2_with fail;refine Calls.mono yQ.o ?_;rintro e W1 ⟨rfl,yE⟩;have yN:w.heap.size+3<=W1.heap.size:=Zm f yE.size
 have yY:Hid (Below (w.heap.size+3) W W1):=yE.mono f;have bA:Below W1.heap.size W1 (W1.alloc (.cells #[] 137)):=Zy;have yR:Hid ((W1.alloc (.cells #[] 137)).ownsRow (w.heap.size+3) 137 2 (Za W1.heap.size 0 0) 0 []):=World.ownsRow_lit (base:=w.heap.size+3) (e:=137) (size:=2) W1 #[] 0 (by omega) (by unfold maxLen;omega) rfl
 have yO:Hid (Below (w.heap.size+3) W (W1.alloc (.cells #[] 137))):=yY.o.trans (bA.mono yN);generalize CE O s=fi at *
 clear yQ bA yE o v0 p r t u y z S;go_wp2
 go_loopw [5,6,7] (fun v dn i wr=>∃(k g c:Nat),k<=d.length/\i=Zg k/\dn=.bool (Dy (d.take k) n)/\v=Za g (BM (d.take k) n s).length c/\Hid (wr.ownsRow (w.heap.size+3) 137 2 (Za g (BM (d.take k) n s).length c) (BM (d.take k) n s).length (Ab pC (BM (d.take k) n s))/\Below (w.heap.size+3) W wr)) (fun _ _ i _=>d.length -(intOf i).toNat)
 case atStart=>exact⟨0,W1.heap.size,0,Nat.zero_le _,rfl,rfl,by simp[BM,Dy],⟨by simpa [BM,Dy,Ab]using yR.o,yO.o⟩⟩
 case round=>
  clear yR yO;obtain⟨k,g,c,hk,rfl,rfl,rfl,P⟩:=hrel;have zP:Below w.heap.size w wr:=yP.o.trans (P.o.2.mono (by omega));have yG:w.heap.size+3<=wr.heap.size:=Zm f P.o.2.size;obtain⟨v0,p,r,t,u,y,z,S⟩:=Bw (l.o _ P.o.2).1;obtain⟨o,D⟩:=Aa.c2 ((l.o _ P.o.2).2.1) 1 2;by_cases hlt:k<d.length
  ·obtain⟨M,yC,ha,hb,yS⟩:=(AS.below HR.o zP).at hlt;subst ha;have HG:Hid (d[k]?=some d[k]):=Zv hlt;obtain⟨E,F⟩:=yS k _ HG.o;have yZ:∀X,Below (w.heap.size+3) W X->X.cell? (Ze M (yC+k *2))=some (.string d[k].name)/\X.cell? (Ze M (yC+k *2+1))=some (.string d[k].sum):=fun X hX=>by obtain⟨b2,xK,e2,_,xD⟩:=(AS.below HR.o (yP.o.trans (hX.mono (by omega)))).at hlt;cases e2;exact xD k _ HG.o
   have xO:(BM (d.take k) n s).length<=1001:=by have:=Kl (d.take k) n s;rw[List.length_take]at this;omega
   have yM:M<wr.heap.size:=by have:=zP.size;omega
   clear yS;have G:=Yx (QT n s HG.o);have zN:=Yx (Wm n s HG.o);have J:=Yx (SE n s xA.o HG.o);have HD:=Yx (Hi n HG.o);generalize d[k]=x at *
   generalize hGk:BM (d.take k) n s=gk at *
   generalize hDk:Dy (d.take k) n=dk at *
   have xL:=Yx hGk;clear hGk hDk;have U:=Yx yZ;have zC:=P.o.2;have yD:=P.o.1;have xU:=yG;have xS:=yM;cases dk with
   |true=>
    obtain⟨L,hE⟩:=J.o rfl;have HE:=Yx hE;have zI:Hid (Dy (d.take (k+1)) n=true):=by show _=_;rw[HD.o];rfl
    have zJ:(x.name.toList==n.toList)=false:=BP L;have Z:(x.name.toList !=n.toList)=true:=by simp[bne,zJ]
    clear hE G zN J L P;go_wp2;go_quiet (fail);have H:Below wr.heap.size wr (wr.drewN nq):=BV (Below.refl _ _) _;generalize wr.drewN nq=wa at *
    have j:Below (w.heap.size+3) W wa:=zC.trans (H.mono (Zm f zC.size));have zA:=Ae yD H;have zG:w.heap.size+3<=wa.heap.size:=Zm f j.size;have yH:M<wa.heap.size:=by omega
    clear E F o D v0 p r t u y z;obtain⟨v0,p,r,t,u,y,z,S⟩:=Bw (l.o _ j).1;obtain⟨o,D⟩:=Aa.c2 ((l.o _ j).2.1) 1 2;obtain⟨E,F⟩:=U.o wa j;go_wp2;go_quiet (fail);have H:Below wa.heap.size wa (wa.drewN nq):=BV (Below.refl _ _) _;generalize wa.drewN nq=wb at *
    have Q:Below (w.heap.size+3) W wb:=j.trans (H.mono (Zm f j.size));have zR:=Ae zA H;have zV:w.heap.size+3<=wb.heap.size:=Zm f Q.size;have xG:M<wb.heap.size:=by omega
    clear E F o D v0 p r t u y z;obtain⟨v0,p,r,t,u,y,z,S⟩:=Bw (l.o _ Q).1;obtain⟨o,D⟩:=Aa.c2 ((l.o _ Q).2.1) 1 2;obtain⟨E,F⟩:=U.o wb Q;obtain⟨Y,m,wc,C,B,A,_⟩:=Iu wb (w.heap.size+3) _ gk zR x (by first|omega|(simp;omega)) zV 37;have h:Below (w.heap.size+3) W wc:=Q.trans ((Below.refl _ _).grown A zV (fun q e=>(Ac zR e).1));have yJ:w.heap.size+3<=wc.heap.size:=Zm f h.size
    have yI:M<wc.heap.size:=by omega
    have zB:=B;clear B A;go_wp2_with (at_builtin;refine wpList_append_run rfl _ _ 37 37 rfl rfl rfl C ?_);clear C;clear E F o D v0 p r t u y z;obtain⟨v0,p,r,t,u,y,z,S⟩:=Bw (l.o _ h).1;obtain⟨o,D⟩:=Aa.c2 ((l.o _ h).2.1) 1 2;obtain⟨E,F⟩:=U.o wc h;have K:=Yx (Zn zB h);clear zB h;go_wp2
    exact⟨⟨k+1,Y,m,by omega,by go_num,by rw[zI.o],by rw[HE.o];simp,⟨by rw[HE.o];simpa using K.o.1,K.o.2⟩⟩,by simp[intOf];omega⟩
   |false=>
    cases hless:Op.bytesLess x.name.toList n.toList with
    |true=>
     have HE:=Yx (G.o rfl hless);have zI:Hid (Dy (d.take (k+1)) n=false):=by show _=_;rw[HD.o];unfold less;rw[hless];rfl
     have L:x.name≠n:=fun e=>by have:=Ch n;unfold less at this;rw[e,this]at hless;cases hless
     have zJ:(x.name.toList==n.toList)=false:=BP L;have Z:(x.name.toList !=n.toList)=true:=by simp[bne,zJ]
     clear G zN J L P;go_wp2;go_quiet (fail);have H:Below wr.heap.size wr (wr.drewN nq):=BV (Below.refl _ _) _;generalize wr.drewN nq=wa at *
     have j:Below (w.heap.size+3) W wa:=zC.trans (H.mono (Zm f zC.size));have zA:=Ae yD H;have zG:w.heap.size+3<=wa.heap.size:=Zm f j.size;have yH:M<wa.heap.size:=by omega
     clear E F o D v0 p r t u y z;obtain⟨v0,p,r,t,u,y,z,S⟩:=Bw (l.o _ j).1;obtain⟨o,D⟩:=Aa.c2 ((l.o _ j).2.1) 1 2;obtain⟨E,F⟩:=U.o wa j;go_wp2;go_quiet (fail);have H:Below wa.heap.size wa (wa.drewN nq):=BV (Below.refl _ _) _;generalize wa.drewN nq=wb at *
     have Q:Below (w.heap.size+3) W wb:=j.trans (H.mono (Zm f j.size));have zR:=Ae zA H;have zV:w.heap.size+3<=wb.heap.size:=Zm f Q.size;have xG:M<wb.heap.size:=by omega
     clear E F o D v0 p r t u y z;obtain⟨v0,p,r,t,u,y,z,S⟩:=Bw (l.o _ Q).1;obtain⟨o,D⟩:=Aa.c2 ((l.o _ Q).2.1) 1 2;obtain⟨E,F⟩:=U.o wb Q;obtain⟨Y,m,wc,C,B,A,_⟩:=Iu wb (w.heap.size+3) _ gk zR x (by first|omega|(simp;omega)) zV 37;have h:Below (w.heap.size+3) W wc:=Q.trans ((Below.refl _ _).grown A zV (fun q e=>(Ac zR e).1));have yJ:w.heap.size+3<=wc.heap.size:=Zm f h.size
     have yI:M<wc.heap.size:=by omega
     have zB:=B;clear B A;go_wp2_with (at_builtin;refine wpList_append_run rfl _ _ 37 37 rfl rfl rfl C ?_);clear C;clear E F o D v0 p r t u y z;obtain⟨v0,p,r,t,u,y,z,S⟩:=Bw (l.o _ h).1;obtain⟨o,D⟩:=Aa.c2 ((l.o _ h).2.1) 1 2;obtain⟨E,F⟩:=U.o wc h;have K:=Yx (Zn zB h);clear zB h;go_wp2
     exact⟨⟨k+1,Y,m,by omega,by go_num,by rw[zI.o],by rw[HE.o];simp,⟨by rw[HE.o];simpa using K.o.1,K.o.2⟩⟩,by simp[intOf];omega⟩
    |false=>
     have yA:=Yx (zN.o rfl hless);have zI:Hid (Dy (d.take (k+1)) n=true):=by show _=_;rw[HD.o];unfold less;rw[hless];rfl
     by_cases L:x.name=n
     ·have zJ:(x.name.toList==n.toList)=true:=by rw[L];simp
      have Z:(x.name.toList !=n.toList)=false:=by rw[L];simp
      have HE:Hid (BM (d.take (k+1)) n s=gk++[⟨n,s⟩]):=by show _=_;rw[yA.o,if_pos L,List.append_nil]
      clear G zN J L P yA;go_wp2;go_quiet (fail);have H:Below wr.heap.size wr (wr.drewN nq):=BV (Below.refl _ _) _;generalize wr.drewN nq=wa at *
      have j:Below (w.heap.size+3) W wa:=zC.trans (H.mono (Zm f zC.size));have zA:=Ae yD H;have zG:w.heap.size+3<=wa.heap.size:=Zm f j.size;have yH:M<wa.heap.size:=by omega
      clear E F o D v0 p r t u y z;obtain⟨v0,p,r,t,u,y,z,S⟩:=Bw (l.o _ j).1;obtain⟨o,D⟩:=Aa.c2 ((l.o _ j).2.1) 1 2;obtain⟨E,F⟩:=U.o wa j;obtain⟨Y,m,wc,C,B,A,_⟩:=Iu wa (w.heap.size+3) _ gk zA ⟨n,s⟩ (by first|omega|(simp;omega)) zG 37;have h:Below (w.heap.size+3) W wc:=j.trans ((Below.refl _ _).grown A zG (fun q e=>(Ac zA e).1));have yJ:w.heap.size+3<=wc.heap.size:=Zm f h.size
      have yI:M<wc.heap.size:=by omega
      have zB:=B;clear B A;go_wp2_with (at_builtin;refine wpList_append_run rfl _ _ 37 37 rfl rfl rfl C ?_);clear C;clear E F o D v0 p r t u y z;obtain⟨v0,p,r,t,u,y,z,S⟩:=Bw (l.o _ h).1;obtain⟨o,D⟩:=Aa.c2 ((l.o _ h).2.1) 1 2;obtain⟨E,F⟩:=U.o wc h;go_wp2;go_quiet (fail);have H:Below wc.heap.size wc (wc.drewN nq):=BV (Below.refl _ _) _;generalize wc.drewN nq=I at *
      have N:Below (w.heap.size+3) W I:=h.trans (H.mono (Zm f h.size));have zS:=Ae zB H;have yK:w.heap.size+3<=I.heap.size:=Zm f N.size;have xH:M<I.heap.size:=by omega
      clear E F o D v0 p r t u y z;obtain⟨v0,p,r,t,u,y,z,S⟩:=Bw (l.o _ N).1;obtain⟨o,D⟩:=Aa.c2 ((l.o _ N).2.1) 1 2;obtain⟨E,F⟩:=U.o I N;have K:=Yx (Zn zS N);clear zS N;go_wp2;exact⟨⟨k+1,Y,m,by omega,by go_num,by rw[zI.o],by rw[HE.o];simp,⟨by rw[HE.o];simpa using K.o.1,K.o.2⟩⟩,by simp[intOf];omega⟩
     ·have zJ:(x.name.toList==n.toList)=false:=BP L;have Z:(x.name.toList !=n.toList)=true:=by simp[bne,zJ]
      have HE:Hid (BM (d.take (k+1)) n s=(gk++[⟨n,s⟩])++[x]):=by show _=_;rw[yA.o,if_neg L]
      clear G zN J L P yA;go_wp2;go_quiet (fail);have H:Below wr.heap.size wr (wr.drewN nq):=BV (Below.refl _ _) _;generalize wr.drewN nq=wa at *
      have j:Below (w.heap.size+3) W wa:=zC.trans (H.mono (Zm f zC.size));have zA:=Ae yD H;have zG:w.heap.size+3<=wa.heap.size:=Zm f j.size;have yH:M<wa.heap.size:=by omega
      clear E F o D v0 p r t u y z;obtain⟨v0,p,r,t,u,y,z,S⟩:=Bw (l.o _ j).1;obtain⟨o,D⟩:=Aa.c2 ((l.o _ j).2.1) 1 2;obtain⟨E,F⟩:=U.o wa j;obtain⟨Y,m,wc,C,B,A,_⟩:=Iu wa (w.heap.size+3) _ gk zA ⟨n,s⟩ (by first|omega|(simp;omega)) zG 37;have h:Below (w.heap.size+3) W wc:=j.trans ((Below.refl _ _).grown A zG (fun q e=>(Ac zA e).1));have yJ:w.heap.size+3<=wc.heap.size:=Zm f h.size
      have yI:M<wc.heap.size:=by omega
      have zB:=B;clear B A;go_wp2_with (at_builtin;refine wpList_append_run rfl _ _ 37 37 rfl rfl rfl C ?_);clear C;clear E F o D v0 p r t u y z;obtain⟨v0,p,r,t,u,y,z,S⟩:=Bw (l.o _ h).1;obtain⟨o,D⟩:=Aa.c2 ((l.o _ h).2.1) 1 2;obtain⟨E,F⟩:=U.o wc h;go_wp2;go_quiet (fail);have H:Below wc.heap.size wc (wc.drewN nq):=BV (Below.refl _ _) _;generalize wc.drewN nq=I at *
      have N:Below (w.heap.size+3) W I:=h.trans (H.mono (Zm f h.size));have zS:=Ae zB H;have yK:w.heap.size+3<=I.heap.size:=Zm f N.size;have xH:M<I.heap.size:=by omega
      clear E F o D v0 p r t u y z;obtain⟨v0,p,r,t,u,y,z,S⟩:=Bw (l.o _ N).1;obtain⟨o,D⟩:=Aa.c2 ((l.o _ N).2.1) 1 2;obtain⟨E,F⟩:=U.o I N;obtain⟨g9,yL,we,zZ,zX,zW,_⟩:=Iu I (w.heap.size+3) _ (gk++[⟨n,s⟩]) zS x (by first|omega|(simp;omega)) yK 37;have zK:Below (w.heap.size+3) W we:=N.trans ((Below.refl _ _).grown zW yK (fun q e=>(Ac zS e).1));have xT:w.heap.size+3<=we.heap.size:=Zm f zK.size
      have xR:M<we.heap.size:=by omega
      have yX:=zX;clear zX zW;go_wp2_with (at_builtin;refine wpList_append_run rfl _ _ 37 37 rfl rfl rfl zZ ?_);clear zZ;clear E F o D v0 p r t u y z;obtain⟨v0,p,r,t,u,y,z,S⟩:=Bw (l.o _ zK).1;obtain⟨o,D⟩:=Aa.c2 ((l.o _ zK).2.1) 1 2;obtain⟨E,F⟩:=U.o we zK;have K:=Yx (Zn yX zK);clear yX zK;go_wp2
      exact⟨⟨k+1,g9,yL,by omega,by go_num,by rw[zI.o],by rw[HE.o];simp,⟨by rw[HE.o];simpa using K.o.1,K.o.2⟩⟩,by simp[intOf];omega⟩
  ·obtain rfl:k=d.length:=by omega
   have hO:=P.o.1;rw[Zt (Zx)]at hO ⊢;have T:Hid (Zz w wr):=zP;cases hDn:Dy d n with
   |true=>
    have zF:=UA n s hDn;rw[zF]at hO ⊢;have K:=Yx hO;have xC:=Kl d n s;rw[zF]at xC;have f5:=((l.o _ P.o.2).1 5 _ rfl).2;obtain⟨⟨y0,q0⟩,⟨y1,q1⟩,⟨y2,q2⟩,⟨y3,q3⟩,⟨y4,q4⟩,⟨y5,q5⟩,⟨y6,q6⟩,⟨y7,q7⟩,⟨y8,q8⟩,⟨y9,q9⟩,⟨zT,xI⟩,zU,xJ⟩:=AT (l.o _ P.o.2).2.2;clear hDn zF zP P o D;by_cases hbig:100<(Bl d n s).length
    ·have Z:(100:Int)<((Bl d n s).length:Int):=by omega
     have zE:Hid (100<(Bl d n s).length):=hbig;clear hbig hO;go_wp2;refine bodyPost_ret (v:=.agg (Yq 4)) (by simp[results,results76,go_sem,y0,y1,y2,y3,y4,y5,y6,y7,y8,y9,zT,zU]) rfl ?_;exact⟨T.o.trans (Tn.below (Bh wr (w.heap.size+2) _ _ _ _ _ _ _ _ _ _ _ _) T.o.size (by intro v hv;simp at hv;omega)),.inl ⟨zE.o,rfl⟩⟩
    ·have Z:¬(100:Int)<((Bl d n s).length:Int):=by omega
     have zE:Hid ((Bl d n s).length<=100):=by show _<=_;omega
     clear hbig hO;go_wp2;refine bodyPost_ret (v:=.agg #[Zf,Zg I,Zg R,Zg given,Zg ae,.slice ta O.length tc,Za g (Bl d n s).length c,.slice la ln lc,Zd,Zf,Zd,Zd]) (by simp[results,results76,go_sem,y0,y1,y2,y3,y4,y5,y6,y7,y8,y9,zT,zU]) rfl ?_
     have T':=(Tn.set (V:=[w.heap.size,w.heap.size+2]) wr w.heap.size 5 (Za g (Bl d n s).length c) (by simp)).trans (Tn.mono (Bh (wr.setCell (Ze (w.heap.size) 5) (Za g (Bl d n s).length c)) (w.heap.size+2) Zf (Zg I) (Zg R) (Zg given) (Zg ae) (.slice ta O.length tc) (Za g (Bl d n s).length c) (.slice la ln lc) Zd Zf Zd Zd) (by simp))
     exact⟨T.o.trans (T'.below T.o.size (by intro v hv;simp at hv;omega)),.inr ⟨zE.o,g,c,rfl,(Ai K.o (fun q Z=>T'.block q (Ac K.o Z).2 (by have:=(Ac K.o Z).1;simp;omega))).mono (by omega)⟩⟩
   |false=>
    have xM:=Kl d n s;have zF:=Wn n s hDn;obtain⟨Y,m,w8,yV,yF,yT,xE⟩:=Iu wr (w.heap.size+3) _ (BM d n s) hO ⟨n,s⟩ (by omega) yG 37;have b8:Below (w.heap.size+3) wr w8:=(Below.refl _ _).grown yT yG (fun q e=>(Ac hO e).1);have yB:Below (w.heap.size+3) W w8:=P.o.2.trans b8;have T:Hid (Zz w w8):=T.o.trans (b8.mono (by omega))
    have zO:Hid ((Bl d n s).length=(BM d n s).length+1):=by show _=_;rw[←zF];simp
    rw[zF,zO.o]at yF;have K:=Yx yF;have f5:=((l.o _ yB).1 5 _ rfl).2;obtain⟨⟨y0,q0⟩,⟨y1,q1⟩,⟨y2,q2⟩,⟨y3,q3⟩,⟨y4,q4⟩,⟨y5,q5⟩,⟨y6,q6⟩,⟨y7,q7⟩,⟨y8,q8⟩,⟨y9,q9⟩,⟨zT,xI⟩,zU,xJ⟩:=AT (l.o _ yB).2.2;obtain⟨z0,z1,z2,z3,z4,z5,z6,z7⟩:=Bw (l.o _ yB).1;clear hDn zF zP P b8 yT xE yF yB hO;by_cases hbig:100<((BM d n s).length+1)
    ·have Z:(100:Int)<((BM d n s).length:Int)+1:=by omega
     have zE:Hid (100<(Bl d n s).length):=by show _<_;rw[zO.o];exact hbig
     clear hbig;go_wp2_with (at_builtin;refine wpList_append_run rfl _ _ 37 37 rfl rfl rfl yV ?_);refine bodyPost_ret (v:=.agg (Yq 4)) (by simp[results,results76,go_sem,y0,y1,y2,y3,y4,y5,y6,y7,y8,y9,zT,zU]) rfl ?_;exact⟨T.o.trans (Tn.below (Bh w8 (w.heap.size+2) _ _ _ _ _ _ _ _ _ _ _ _) T.o.size (by intro v hv;simp at hv;omega)),.inl ⟨zE.o,rfl⟩⟩
    ·have Z:¬(100:Int)<((BM d n s).length:Int)+1:=by omega
     have xQ:¬(100:Int)<(((BM d n s).length+1:Nat):Int):=by omega
     have zE:Hid ((Bl d n s).length<=100):=by show _<=_;rw[zO.o];omega
     clear hbig;go_wp2_with (at_builtin;refine wpList_append_run rfl _ _ 37 37 rfl rfl rfl yV ?_);refine bodyPost_ret (v:=.agg #[Zf,Zg I,Zg R,Zg given,Zg ae,.slice ta O.length tc,Za Y ((BM d n s).length+1) m,.slice la ln lc,Zd,Zf,Zd,Zd]) (by simp[results,results76,go_sem,y0,y1,y2,y3,y4,y5,y6,y7,y8,y9,zT,zU]) rfl ?_
     have T':=(Tn.set (V:=[w.heap.size,w.heap.size+2]) w8 w.heap.size 5 (Za Y ((BM d n s).length+1) m) (by simp)).trans (Tn.mono (Bh (w8.setCell (Ze (w.heap.size) 5) (Za Y ((BM d n s).length+1) m)) (w.heap.size+2) Zf (Zg I) (Zg R) (Zg given) (Zg ae) (.slice ta O.length tc) (Za Y ((BM d n s).length+1) m) (.slice la ln lc) Zd Zf Zd Zd) (by simp))
     have xB:=(Ai K.o (fun q Z=>T'.block q (Ac K.o Z).2 (by have:=(Ac K.o Z).1;simp;omega))).mono (show w.heap.size<=w.heap.size+3 by omega);refine⟨T.o.trans (T'.below T.o.size (by intro v hv;simp at hv;omega)),.inr ⟨zE.o,Y,m,by rw[zO.o],?_⟩⟩;rw[zO.o];exact xB
theorem Cy{P:Program}(w:Zh)(l y z elem:TypeId)(i:TypeInfo)(k b o c f:Nat)(a:Addr)(d h:Nat)(e:Zj)
 (x:P.underlying l=some (.slice elem)) (s:P.info? elem=some i) (t:i.size=k) (u:e.length=Nat.min d c *k)
 (g:∀j v,e[j]?=some v->w.cell? (a.add j)=some v) (q:∀j,j<e.length->(w.cell? (Ze b (o+j))).isSome=true) (r:∀j,j<e.length->w.frozen? ⟨b,o+j,none⟩=false) (p:∀v∈e,v.oneCell'=true):
 (Builtin.copy_ #[l,y] z #[.slice (some ⟨b,o,none⟩) c f,.slice (some a) d h]).run P w=.ok (goInt (Nat.min d c)) (w.setCells b o e):=by
 have m:=run_loadCells_list (P:=P) w a e g;have n:=run_storeCells_cells (P:=P) b o e 0 w (by simpa using q) (by simpa using r) p;rw[u]at m;subst t;simp[Builtin.copy_,run_underlying x,Builtin.lenOf,Builtin.firstCells,sizeOf,typeInfo,s,m,n]
theorem DT(g:Nat)(t:TypeId)(a:Nat×Nat):∀(vs:Zj) (o:Nat) (w:Zh) (cur:Array Value),w.heap[g]?=some (.cells cur t a)->o+vs.length<=cur.size->
 (w.setCells g o vs).heap[g]?=some (.cells (cur.toList.take o++vs++cur.toList.drop (o+vs.length)).toArray t a)
 |[],o,w,cur,hg,_=>by simpa [World.setCells]using hg
 |v::r,o,w,cur,hg,hl=>by
  simp only[List.length_cons]at hl;rw[World.setCells];have b:(w.setCell (Ze g o) v).heap[g]?=some (.cells (cur.setIfInBounds o v) t a):=by rw[setCell_eq_setRow w g o cur t a v hg];exact setRow_heap w g cur _ t _ hg
  rw[DT g t a r (o+1) _ _ b (by simp;omega)];have e:=list_seg_step cur.toList o v r (by simp;omega);simp only[Array.toList_setIfInBounds,List.length_cons];rw[e]
theorem Mm{w:Zh}{base g c n k i:Nat}{e:TypeId}{a f:Zj}(h:w.ownsRow base e k (Za g n c) n a)(y:i<=n)(j:f.length=k)(o:n+1<=c):
 ((w.setCells g ((i+1) *k) (a.drop (i *k))).setCells g (i *k) f).ownsRow base e k (Za g (n+1) c) (n+1) (a.take (i *k)++f++a.drop (i *k)):=by
 obtain⟨p,z⟩:=h;rcases z with⟨e,_⟩|⟨D,q,b,e,v,x,E,t,d,u⟩
 ·cases e
 ·cases e;have F:=Nat.mul_le_mul_right k y;have A:=Nat.mul_le_mul_right k o;rw[Nat.add_mul]at A ⊢;have hlen:(a.take (i *k)++f++a.drop (i *k)).length=n *k+k:=by rw[List.length_append,List.length_append,List.length_take,List.length_drop,p,j];omega
  have m:(n+1) *k=n *k+k:=by rw[Nat.add_mul];omega
  have l:(a.drop (i *k)).length=n *k -i *k:=by rw[List.length_drop,p]
  have r:=DT g e (0,0) (a.drop (i *k)) (i *k+1 *k) w b x (by rw[l,d];omega);have s:=DT g e (0,0) f (i *k) _ _ r (by simp[l,d,j];omega);refine⟨by rw[hlen,m],.inr ⟨g,c,_,rfl,v,s,o,t,?_,?_⟩⟩
  ·simp[l,d,j];omega
  ·have B:(b.toList.take (i *k+1 *k)++a.drop (i *k)++b.toList.drop (i *k+1 *k+(a.drop (i *k)).length)).take (i *k)=a.take (i *k):=by rw[List.append_assoc,List.take_append_of_le_length (by simp[d];omega),List.take_take,Nat.min_eq_left (by omega),←u,List.take_take,Nat.min_eq_left (by omega)]
   have C:(b.toList.take (i *k+1 *k)++a.drop (i *k)++b.toList.drop (i *k+1 *k+(a.drop (i *k)).length)).drop (i *k+f.length)=a.drop (i *k)++b.toList.drop (i *k+1 *k+(a.drop (i *k)).length):=by rw[List.append_assoc,List.drop_append_of_le_length (by simp[d,j];omega),List.drop_eq_nil_of_le (by simp[d,j];omega),List.nil_append]
   rw[List.toList_toArray,List.toList_toArray,B,C,←List.append_assoc,List.take_append_of_le_length (by rw[hlen,m];exact Zx),Zt (by rw[hlen,m];exact Zx)]
theorem NR{w:Zh}{base g n k i G:Nat}{e:TypeId}{a b f:Zj}(l:a.length=n *k)(t:i<=n)(d:b.length=k)(r:base<=g)(s:w.heap[g]?=some (.cells (a.take (i *k)++f).toArray e (0,0)))(y:i *k+f.length=G *k)(m:n+1<=G)(o:G<=maxLen):
 ((w.setCells g (i *k) b).setCells g ((i+1) *k) (a.drop (i *k))).ownsRow base e k (Za g (n+1) G) (n+1) (a.take (i *k)++b++a.drop (i *k)):=by
 have z:=Nat.mul_le_mul_right k t;have u:=Nat.mul_le_mul_right k m;rw[Nat.add_mul]at u ⊢;have hlen:(a.take (i *k)++b++a.drop (i *k)).length=n *k+k:=by rw[List.length_append,List.length_append,List.length_take,List.length_drop,l,d];omega
 have h:(n+1) *k=n *k+k:=by rw[Nat.add_mul];omega
 have c:(a.take (i *k)).length=i *k:=by rw[List.length_take,l];omega
 have j:(a.drop (i *k)).length=n *k -i *k:=by rw[List.length_drop,l]
 have p:=DT g e (0,0) b (i *k) w _ s (by simp[c,d];omega);have q:=DT g e (0,0) (a.drop (i *k)) (i *k+1 *k) _ _ p (by simp[j,d,c];omega);refine⟨by rw[hlen,h],.inr ⟨g,G,_,rfl,r,q,m,o,?_,?_⟩⟩
 ·simp[j,d,c];omega
 ·have v:(a.take (i *k)++f).take (i *k)=a.take (i *k):=by rw[List.take_append_of_le_length (by omega),Zt (by omega)]
  have x:((a.take (i *k)++f).take (i *k)++b++(a.take (i *k)++f).drop (i *k+b.length)).take (i *k+1 *k)=a.take (i *k)++b:=by rw[v,List.take_append_of_le_length (by simp[d,c]),Zt (by simp[d,c])]
  rw[x,List.take_append_of_le_length (by rw[hlen,h];exact Zx),Zt (by rw[hlen,h];exact Zx)]
theorem Hj(b:Nat)(a:Zj)(o:Nat)(w:Zh)(h:∀j,j<a.length->(w.cell? (Ze b (o+j))).isSome=true)(k:Nat)(c:(w.cell? (Ze b k)).isSome=true):((w.setCells b o a).cell? (Ze b k)).isSome=true:=by
 by_cases hin:o<=k/\k<o+a.length
 ·obtain⟨j,rfl⟩:∃j,k=o+j:=⟨k -o,by omega⟩;rw[World.cell?_setCells_in b a o w h j (by omega)];rfl
 ·rw[World.cell?_setCells_out b a o w _ (fun _ _=>by show k<o∨o+a.length<=k;omega)];exact c
theorem Ji(b:Nat):∀(vs:Zj) (o:Nat) (w:Zh),(w.setCells b o vs).drew=w.drew.setCells b o vs
 |[],_,_=>rfl
 |v::r,o,w=>by rw[World.setCells,World.setCells,Ji b r];rfl
theorem Gs(w:Zh)(a:Addr):w.drew.cell? a=w.cell? a:=rfl
theorem Jj(w:Zh)(a:Addr):w.drew.frozen? a=w.frozen? a:=rfl
theorem JN(w:Zh)(r:Option Nat):w.grownBy w.drew r:=⟨rfl,rfl,rfl,Zx,fun _ _ _=>rfl⟩
theorem Dq{P:Program}(w:Zh){b:Array Oper}{rest:List Oper}{o:Oper}{a:Act}{Q:Exit->Act->Zh->Prop}(j:o.guard=none)(d s:Operand)(t c:TypeId)
 (k:o.op=.call {callee:=.builtin .copy,args:= #[d,s],argTypes:= #[t,c]}) (v u:Value) (i:a.eval d=v) (m:a.eval s=u) {e:Value} {f:Zh}
 (l:(Builtin.copy_ #[t,c] o.type #[v,u]).run P w=.ok e f) (h:wpList P b Q rest (a.put o.dst e) f):wpList P b Q (o::rest) a w:=by
 refine wpList_plain j fun K g=> ?_;unfold Oper.wp;simp[execOp,k,resolve,invoke,builtin,i,m,l,Result.andThen];exact g _ _ h
theorem Ef{P:Program}{f:Array Oper}{o:Oper}{a:Act}{w:Zh}{K:Act->Zh->Prop}{Q:Exit->Act->Zh->Prop}{E:Prop}
 (i:o.guard=none) (d s:Operand) (t b:TypeId) (j:o.op=.call {callee:=.builtin .copy,args:= #[d,s],argTypes:= #[t,b]})
 (v u:Value) (h:a.eval d=v) (l:a.eval s=u) {c:Value} {e:Zh} (k:(Builtin.copy_ #[t,b] o.type #[v,u]).run P w=.ok c e) (g:K (a.put o.dst c) e):
 if Region.wanted o (yielded f a.tmps)=true then Oper.wp P o a w K Q else E:=by
 rw[if_pos (by simp[Region.wanted,i])];unfold Oper.wp;simp[execOp,j,resolve,invoke,builtin,h,l,k,Result.andThen];exact g
end Go.Proofs.YtlhhpofjkgmbeaaGreatDoor
