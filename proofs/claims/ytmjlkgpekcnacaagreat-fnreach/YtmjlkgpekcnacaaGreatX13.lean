import Derived.Test.YtmjlkgpekcnacaaGreatX12
import Derived.Laws.Tables
set_option maxRecDepth 100000
set_option maxHeartbeats 16000000
namespace Go.Proofs.YtmjlkgpekcnacaaGreat
open Go.ChangeShapes Go.WideShapes Go.ChangeAt Go.RowKit _root_.Go.Proofs.Tryz
variable{w X:Zh}{l a:Zj}{B c b n:Nat}{S U T P L Q M:Value}{v:Vd}{d:Dd}
theorem OL(v:Vd)(a:Va)(w:Zh)(D:∀X,Zz w X->Calls prog 87 #[.agg #[.slice a.Z v.ss.length a.j,.slice a.X v.A.length a.Y]] X fun e A=>∃x j y k,e=.returned (.agg #[Yz x v.ss.length j,Yz y v.A.length k])/\A.ownsRow X.heap.size 9 1 (Yz x v.ss.length j) v.ss.length (v.ss.map Value.string)/\A.ownsRow X.heap.size 9 1 (Yz y v.A.length k) v.A.length (v.A.map Value.string)/\x≠y/\Zz X A)(N:∀X,Zz w X->Calls prog 64 #[.agg (Yj v.O v.D v.G v.C a.T v.ks.length a.U a.L v.ps.length a.Q a.J v.ls.length a.P)] X fun e A=>∃T P L r,e=.returned (.agg #[Zg v.O,Zg v.D,Zg v.G,Zg v.C,T,P,L])/\AY A X.heap.size T P L r v.ks v.ps v.ls/\(∀u∈T::P::L::r,∃g n c,u=Yz g n c)/\Zz X A)(h3:∀X,Zz w X->Calls prog 134 #[.agg (Xy v.K a.g v.F.length a.qc a.i v.ms.length a.mc v.R v.S v.ro)] X fun e A=>∃i d f b,e=.returned (.agg (Xy v.K (some ⟨i,0,none⟩) v.F.length d (some ⟨f,0,none⟩) v.ms.length b v.R v.S v.ro))/\A.ownsRow X.heap.size 9 1 (Yz i v.F.length d) v.F.length (v.F.map Value.string)/\A.ownsRow X.heap.size 9 1 (Yz f v.ms.length b) v.ms.length (v.ms.map Value.string)/\i≠f/\Zz X A):
 Calls prog 114 #[.agg (Xt v a)] w fun e A=>∃(S U T P L Q M:Value) (r:Zj),e=.returned (.agg #[Zg v.wd,Zg v.lim,S,U,Zg v.O,Zg v.D,Zg v.G,Zg v.C,T,P,L,Zg v.K,Q,M,Zg v.R,Zg v.S,Zg v.ro])/\AD A w.heap.size S U T P L Q M r v/\(∀u∈S::U::Q::M::T::P::L::r,∃g n c,u=Yz g n c)/\Zz w A:=by
 obtain⟨W,O⟩:∃W,W=(w.alloc (.cells (Xt v a) 80)).alloc (.cells Xs 80):=⟨_,rfl⟩;have F:=(Bm O).1;have zW:=(Bm O).2.1;have HX:Hid (Aa W _ _):=(Bm O).2.2.1;have HZ:Hid (Aa W (w.heap.size+1) Xr):=by have D:=Aa.new (w.alloc (.cells (Xt v a) 80)) Xr 80;rw[World.size_alloc]at D;show Aa W (w.heap.size+1) Xr;rw[O];exact D
 have H1:=Yw D;have H2:=Yw N;have H3:=Yw h3;have J:Hid (∀X,Zz W X->Aa X w.heap.size (Xq v a)):=fun X Z=>Aa.below HX.o Z;have HW:=Yw O;clear O D N h3;go_enter func114,ntmps114;go_upto_region 1 with fail;rw[<-HW.o];clear HW
 go_cut [0] (fun u wx=>∃x j y k s t o q l m r i d f b,Hid (Aa wx (w.heap.size+1) (Xp v (some ⟨x,0,none⟩) j (some ⟨y,0,none⟩) k s t o q l m (some ⟨i,0,none⟩) d (some ⟨f,0,none⟩) b)/\Zz w wx/\AD wx w.heap.size (Yz x v.ss.length j) (Yz y v.A.length k) (.slice s v.ks.length t) (.slice o v.ps.length q) (.slice l v.ls.length m) (Yz i v.F.length d) (Yz f v.ms.length b) r v/\∀u∈(.slice s v.ks.length t)::(.slice o v.ps.length q)::(.slice l v.ls.length m)::r,∃g n c,u=Yz g n c))
 case first=>
  refine wp_region_held_drew (S:=fun X=>Aa X w.heap.size (Xq v a)) Ys (J.o _ (Below.refl _ _).drew) (fun C=> ?_);refine BJ 0 ⟨some 3,.fieldAddr 80 (.tmp 1) 0,0,Bp,#[],none⟩ (Yy w.heap.size) (by exact C) ?_;try simp only[Act.put,Zq,Zp,Zo]
  refine ES 1 ⟨some 4,.load 3 (.tmp 3),3,Bp,#[AA 0],none⟩ (Zg v.wd) (by exact Or.inl ⟨Yq,fun X Z=>by have h0:=(Z 0 _ rfl).1;go_simp⟩) (by exact C) ?_;try simp only[Act.put,Zq,Zp,Zo]
  refine BJ 2 ⟨some 5,.fieldAddr 80 (.tmp 1) 1,0,Bp,#[],none⟩ (Yx w.heap.size 1) (by exact C) ?_;try simp only[Act.put,Zq,Zp,Zo]
  refine ES 3 ⟨some 6,.load 3 (.tmp 5),3,Bp,#[AA 2],none⟩ (Zg v.lim) (by exact Or.inl ⟨Yq,fun X Z=>by have h0:=(Z 1 _ rfl).1;go_simp⟩) (by exact C) ?_;try simp only[Act.put,Zq,Zp,Zo]
  refine BJ 4 ⟨some 7,.fieldAddr 80 (.tmp 1) 2,0,Bp,#[],none⟩ (Yx w.heap.size 2) (by exact C) ?_;try simp only[Act.put,Zq,Zp,Zo]
  refine ES 5 ⟨some 8,.load 76 (.tmp 7),76,Bp,#[AA 4],none⟩ (.agg #[.slice a.Z v.ss.length a.j,.slice a.X v.A.length a.Y]) (by exact yieldsIf_load_mid Yq 76 _ rfl (w.heap.size) 2 rfl [.slice a.Z v.ss.length a.j,.slice a.X v.A.length a.Y] _ (fun X h=>Aa.fj [Zg v.wd,Zg v.lim] [.slice a.Z v.ss.length a.j,.slice a.X v.A.length a.Y] [Zg v.O,Zg v.D,Zg v.G,Zg v.C,.slice a.T v.ks.length a.U,.slice a.L v.ps.length a.Q,.slice a.J v.ls.length a.P,Zg v.K,.slice a.g v.F.length a.qc,.slice a.i v.ms.length a.mc,Zg v.R,Zg v.S,Zg v.ro] h) underlying76 rfl Ys) (by exact C) ?_
  try simp only[Act.put,Zq,Zp,Zo]
  refine BJ 7 ⟨some 10,.fieldAddr 80 (.tmp 1) 3,0,Bp,#[],none⟩ (Yx w.heap.size 4) (by exact C) ?_;try simp only[Act.put,Zq,Zp,Zo]
  refine ES 8 ⟨some 11,.load 27 (.tmp 10),27,Bp,#[AA 7],none⟩ (.agg (Yj v.O v.D v.G v.C a.T v.ks.length a.U a.L v.ps.length a.Q a.J v.ls.length a.P)) (by exact yieldsIf_load_mid Yq 27 _ rfl (w.heap.size) 4 rfl (Yh v.O v.D v.G v.C a.T v.ks.length a.U a.L v.ps.length a.Q a.J v.ls.length a.P) _ (fun X h=>Aa.fj [Zg v.wd,Zg v.lim,.slice a.Z v.ss.length a.j,.slice a.X v.A.length a.Y] (Yh v.O v.D v.G v.C a.T v.ks.length a.U a.L v.ps.length a.Q a.J v.ls.length a.P) (Xv v.K a.g v.F.length a.qc a.i v.ms.length a.mc v.R v.S v.ro) h) underlying27 rfl Ys) (by exact C) ?_
  try simp only[Act.put,Zq,Zp,Zo]
  refine BJ 10 ⟨some 13,.fieldAddr 80 (.tmp 1) 4,0,Bp,#[],none⟩ (Yx w.heap.size 11) (by exact C) ?_;try simp only[Act.put,Zq,Zp,Zo]
  refine ES 11 ⟨some 14,.load 78 (.tmp 13),78,Bp,#[AA 10],none⟩ (.agg (Xy v.K a.g v.F.length a.qc a.i v.ms.length a.mc v.R v.S v.ro)) (by exact yieldsIf_load_mid Yq 78 _ rfl (w.heap.size) 11 rfl (Xv v.K a.g v.F.length a.qc a.i v.ms.length a.mc v.R v.S v.ro) _ (fun X h=>Aa.fj [Zg v.wd,Zg v.lim,.slice a.Z v.ss.length a.j,.slice a.X v.A.length a.Y,Zg v.O,Zg v.D,Zg v.G,Zg v.C,.slice a.T v.ks.length a.U,.slice a.L v.ps.length a.Q,.slice a.J v.ls.length a.P] (Xv v.K a.g v.F.length a.qc a.i v.ms.length a.mc v.R v.S v.ro) [] h) underlying78 rfl Ys) (by exact C) ?_
  try simp only[Act.put,Zq,Zp,Zo]
  refine Cu 6 ⟨some 9,.call {callee:=Callee.value (.func 87),args:= #[.tmp 8],argTypes:= #[76]},76,Bp,#[AA 5],none⟩ (fun K B=> ?_);go_simp;refine(H1.o W.drew F.drew).mono ?_;rintro e w1 ⟨x,j,y,k,rfl,zM,G,zE,zK⟩;have B1:=(Below.refl W.heap.size W).drew.trans zK;try go_simp
  refine B.out _ _ (J.o w1 B1) (fun zT=> ?_);clear B K;try simp only[Act.put,Zq,Zp,Zo]
  refine Cu 9 ⟨some 12,.call {callee:=Callee.value (.func 64),args:= #[.tmp 11],argTypes:= #[27]},27,Bp,#[AA 8,⟨6,.chain⟩],none⟩ (fun K B=> ?_);go_simp;refine(H2.o w1 (F.trans (B1.mono F.size))).mono ?_;rintro e w2 ⟨T,P,L,r,rfl,zA,zH,R⟩;obtain⟨s,t,o,q,l,m,rfl,rfl,rfl,_⟩:=zA.rows;have I:=B1.trans (R.mono B1.size);try go_simp
  refine B.out _ _ (J.o w2 I) (fun zU=> ?_);clear B K;try simp only[Act.put,Zq,Zp,Zo]
  refine Cu 12 ⟨some 15,.call {callee:=Callee.value (.func 134),args:= #[.tmp 14],argTypes:= #[78]},78,Bp,#[AA 11,⟨9,.chain⟩],none⟩ (fun K B=> ?_);go_simp;refine(H3.o w2 (F.trans (I.mono F.size))).mono ?_;rintro e w3 ⟨i,d,f,b,rfl,zN,H,zF,V⟩;have Y:Below W.heap.size W w3:=I.trans (V.mono I.size);try go_simp
  refine B.out _ _ (J.o w3 Y) (fun zO=> ?_);clear B K;try simp only[Act.put,Zq,Zp,Zo]
  refine BJ 13 ⟨some 16,.build 80 #[(0,.tmp 4),(1,.tmp 6),(2,.tmp 9),(3,.tmp 12),(4,.tmp 15)],80,Bp,#[AA 1,AA 3,AA 6,AA 9,AA 12],none⟩ (.agg (Xo v (some ⟨x,0,none⟩) j (some ⟨y,0,none⟩) k s t o q l m (some ⟨i,0,none⟩) d (some ⟨f,0,none⟩) b)) (by exact zO) ?_;try simp only[Act.put,Zq,Zp,Zo]
  refine Cu 14 ⟨none,.store 80 (.tmp 2) (.tmp 16),0,Bp,#[AA 13,⟨12,.chain⟩,Ak 0,Ak 1,Ak 2,Ak 3,Ak 4,Ak 5,Ak 6,Ak 7,Ak 8,Ak 9,Ak 10,Ak 11,Ak 12,Ak 13],none⟩ (fun K B=> ?_)
  have zJ:AD w3 W.heap.size (Yz x v.ss.length j) (Yz y v.A.length k) (.slice s v.ks.length t) (.slice o v.ps.length q) (.slice l v.ls.length m) (Yz i v.F.length d) (Yz f v.ms.length b) r v:=AD.of (n1:=w1.heap.size) (n2:=w2.heap.size) (Ao.own (Ap (Ap zM R) V)) (Ao.own (Ap (Ap G R) V)) (fun g D N=>by cases D;cases N;exact zE rfl) (fun g z=>by rcases z with z|z;(cases z;exact(zM.lt _ rfl).2);(cases z;exact(G.lt _ rfl).2)) (zA.below V) zK.size zA.di (Ao.own (zN.mono I.size)) (Ao.own (H.mono I.size)) (fun g z=>by rcases z with z|z;(cases z;exact(zN.lt _ rfl).1);(cases z;exact(H.lt _ rfl).1)) R.size (fun g D N=>by cases D;cases N;exact zF rfl)
  have zG:((Xo v (some ⟨x,0,none⟩) j (some ⟨y,0,none⟩) k s t o q l m (some ⟨i,0,none⟩) d (some ⟨f,0,none⟩) b):Array Value).all (·.oneCell')=true:=by simp[Value.oneCell']
  have zI:=Aa.below (v:=Ze) HZ.o Y;obtain⟨W9,zB⟩:∃X,X=w3.setCells (w.heap.size+1) 0 (Xp v (some ⟨x,0,none⟩) j (some ⟨y,0,none⟩) k s t o q l m (some ⟨i,0,none⟩) d (some ⟨f,0,none⟩) b):=⟨_,rfl⟩;have x9:Aa W9 (w.heap.size+1) (Xp v (some ⟨x,0,none⟩) j (some ⟨y,0,none⟩) k s t o q l m (some ⟨i,0,none⟩) d (some ⟨f,0,none⟩) b):=by rw[zB];exact zI.au _ rfl
  have t9:Tn [w.heap.size+1] w3 W9:=by rw[zB];exact AL _ _ _ _
  have z3:=Y.size;have B9:Below w.heap.size w W9:=(F.trans (Y.mono F.size)).trans (t9.below Yv Yu);have zR:AD W9 w.heap.size (Yz x v.ss.length j) (Yz y v.A.length k) (.slice s v.ks.length t) (.slice o v.ps.length q) (.slice l v.ls.length m) (Yz i v.F.length d) (Yz f v.ms.length b) r v:=(zJ.stays t9 (fun g z zS=>by have:=zJ.lo g zS;simp at z;omega)).mono Yv
  have zC:=Yw (Zn x9 (Zn B9 (Zn zR zH)));have zP:=Aa.same (Aa.below HX.o Y) (t9.block _ Yv Yu);rw[if_pos Yq];refine wp_store_mid 80 _ _ rfl (w.heap.size+1) 0 (Xo v (some ⟨x,0,none⟩) j (some ⟨y,0,none⟩) k s t o q l m (some ⟨i,0,none⟩) d (some ⟨f,0,none⟩) b) rfl rfl zI.there Ys zG ?_;try rw[<-zB]
  refine B.out _ _ zP (fun zV=> ?_);clear B K;try simp only[Act.put]
  refine wpAnyH_done Ys ?_ _;go_wp2_with fail;go_meet;exact⟨x,j,y,k,s,t,o,q,l,m,r,i,d,f,b,zC.o⟩
 case rest=>
  obtain⟨x,j,y,k,s,t,o,q,l,m,r,i,d,f,b,HQ⟩:=hcut;go_wp2;refine bodyPost_ret (AW results114 _ _ (w.heap.size+1) (Xp v (some ⟨x,0,none⟩) j (some ⟨y,0,none⟩) k s t o q l m (some ⟨i,0,none⟩) d (some ⟨f,0,none⟩) b) _ rfl HQ.o.1.range underlying80 rfl Ys) rfl ?_;refine⟨_,_,_,_,_,_,_,r,rfl,HQ.o.2.2.1,fun u E=> ?_,HQ.o.2.1⟩;rcases List.mem_cons.1 E with rfl|E
  .exact⟨_,_,_,rfl⟩
  rcases List.mem_cons.1 E with rfl|E
  .exact⟨_,_,_,rfl⟩
  rcases List.mem_cons.1 E with rfl|E
  .exact⟨_,_,_,rfl⟩
  rcases List.mem_cons.1 E with rfl|E
  .exact⟨_,_,_,rfl⟩
  exact HQ.o.2.2.2 u E
def Un(d:Dd)(S U T P L Q M:Value):Zj:=Zg d.c::(Bh d.v S U T P L Q M++[.string d.s,Zg d.n,.string d.a,.string d.b])
def El:Zj:=[Ze,Ze,Ze,Zb,Zb,Ze,Ze,Ze,Ze,Zb,Zb,Zb,Ze,Zb,Zb,Ze,Ze,Ze,Zc,Ze,Zc,Zc]
theorem Aa.jd{o:Nat}{t:TypeId}(h:w.heap[o]?=some (.cells l.toArray t (0,0))):Aa w o l:=fun j v a=>by refine⟨?_,by simp[World.frozen?,h]⟩;simp[World.cell?,h];exact a
theorem Aa.dz:∀(vs l1 l2 l3:Zj) (w:Zh),Aa w B (l1++(l2++l3))->vs.length=l2.length->Aa (w.setCells B l1.length vs) B (l1++(vs++l3))
 |[],l1,[],l3,w,h,_=>h
 |v::r,l1,u::l2,l3,w,h,hl=>by have a:=h.set l1.length v;rw[show(l1++(u::l2++l3)).set l1.length v=(l1++[v])++(l2++l3) by simp]at a;have b:=Aa.dz r (l1++[v]) l2 l3 _ a (by simpa using hl);rw[List.length_append,List.length_singleton,List.append_assoc,List.singleton_append,<-List.cons_append]at b;exact b
 |[],_,_::_,_,_,_,h=>by simp at h
 |_::_,_,[],_,_,_,h=>by simp at h
theorem Aa.dp(a c d:Zj)(h:Aa w B (a++(c++d))):w.there B a.length c.length:=fun j e=>by have b:=h (a.length+j) _ (Zv Yt);exact⟨by rw[b.1];rfl,b.2⟩
theorem AD.apart{h:Zj}(A:Ao w c S v.ss)(C:Ao w c U v.A)(n:∀g,Al S=some g->Al U≠some g)(i:AY w c T P L h v.ks v.ps v.ls)(z:Ao w c Q v.F)(y:Ao w c M v.ms)(l:∀g,Al Q=some g->Al M≠some g)(r:∀g,Al S=some g\/Al U=some g->g∉BO T P L h)(t:∀g,Al Q=some g\/Al M=some g->g∉BO T P L h)(x:∀g j,Al S=some g\/Al U=some g->Al Q=some j\/Al M=some j->g≠j):AD w c S U T P L Q M h v:=by
 refine⟨A,C,i,z,y,?_⟩;have k:=i.nd;rw[Ft]at k;unfold CK;generalize BO T P L h=B at *
 generalize Al S=s at *
 generalize Al U=u at *
 generalize Al Q=q at *
 generalize Al M=m at *
 have one:∀o:Option Nat,o.toList.Nodup:=fun o=>by cases o<;>simp
 simp only[List.nodup_append,List.mem_append,Option.mem_toList];refine⟨⟨one _,one _,fun a f b d e=>n a f (e▸d)⟩,⟨k,⟨one _,one _,fun a f b d e=>l a f (e▸d)⟩,fun a f b d e=>t b d (e▸f)⟩,fun a f b d e=> ?_⟩;rcases d with d|d
 .exact r a f (e▸d)
 .exact x a b f d e
theorem Tm{a:Zi}(h:¬a=⟨#[]⟩):a.toList.isEmpty=false:=by
 cases e:a.toList with
 |nil=>exact absurd (toList_inj (b:=⟨#[]⟩) (by rw[e];simp)) h
 |cons x l=>rfl
def dL(d:Dd)(vs:Zj):Zj:=Zg d.c::(vs++[.string d.s,Zg d.n,.string d.a,.string d.b])
theorem Wi(h:Aa X b (dL d a))(c:a.length=17):X.cell? (Zd b 0)=some (Zg d.c)/\X.cell? (Zd b 18)=some (.string d.s)/\X.cell? (Zd b 19)=some (Zg d.n)/\X.cell? (Zd b 20)=some (.string d.a)/\X.cell? (Zd b 21)=some (.string d.b)/\X.rangeAt b 1 a:=by
 have e:∀j u,[Value.string d.s,Zg d.n,.string d.a,.string d.b][j]?=some u->X.cell? (Zd b (18+j))=some u:=fun j u f=>(h (18+j) u (by
  unfold dL;rw[show 18+j=(17+j)+1 by omega,List.getElem?_cons_succ,List.getElem?_append_right Yv,c,show 17+j -17=j by omega];exact f)).1
 exact⟨(h 0 _ rfl).1,e 0 _ rfl,e 1 _ rfl,e 2 _ rfl,e 3 _ rfl,Aa.fj [Zg d.c] a _ h⟩
theorem Jt{vs:Zj}(h:vs.length=17/\∀u∈vs,u.oneCell'=true):(dL d vs).length=22/\∀u∈dL d vs,u.oneCell'=true:=by
 refine⟨by simp[dL,h.1],fun u a=> ?_⟩;simp only[dL,List.mem_cons,List.mem_append,List.not_mem_nil,or_false]at a;rcases a with rfl|a|rfl|rfl|rfl|rfl
 .rfl
 .exact h.2 u a
 .rfl
 .rfl
 .rfl
 .rfl
theorem FV{P:Program}{c:Array Oper}{rest:List Oper}{b:Oper}{a:Act}{Q:Exit->Act->Zh->Prop}(f:b.guard=none)(t:TypeId)(parts:Array (Nat×Operand))(g:b.op=.build t parts)(l:List (Nat×Value))(e:(parts.map fun(i,x)=>(i,a.eval x)).toList=l)(cells:Array Value)(d:P.built t l=some cells)(h:wpList P c Q rest (a.put b.dst (.agg cells)) w):wpList P c Q (b::rest) a w:=
 wpList_build f t parts g (by rw[e,d];rfl) (by rw[e,d];exact h)
theorem Hq{t:Zj}(h:t.length=17):∃i j k l m n o q r s a b c d e f g,t=[i,j,k,l,m,n,o,q,r,s,a,b,c,d,e,f,g]:=by
 match t,h with
 |[i,j,k,l,m,n,o,q,r,s,a,b,c,d,e,f,g],_=>exact⟨i,j,k,l,m,n,o,q,r,s,a,b,c,d,e,f,g,rfl⟩
theorem RM(h:a.length=17)(s:Zi)(n:Int):prog.built 139 [(1,.agg a.toArray),(2,.string s),(3,Zg n)]=some (Zg 0::(a++[.string s,Zg n,Zc,Zc])).toArray:=by
 obtain⟨j,k,l,m,o,q,r,t,u,v,b,c,d,e,f,g,i,rfl⟩:=Hq h
 kernel_rfl
theorem Qu(h:a.length=17):prog.built 139 [(1,.agg a.toArray)]=some (Zg 0::(a++[Zc,Ze,Zc,Zc])).toArray:=by
 obtain⟨j,k,l,m,n,o,q,r,s,t,b,c,d,e,f,g,i,rfl⟩:=Hq h
 kernel_rfl
theorem Aa.jf(h:Aa X b l)(c:l.length=n+1):b<X.heap.size:=by
 cases l with
 |nil=>simp at c
 |cons a l=>exact h.lt
theorem Nh(h:Aa X b (dL d a))(c:a.length=17):(X.cell? (Zd b 0)=some (Zg d.c)/\X.frozen? ⟨b,0,none⟩=false)/\(X.cell? (Zd b 20)=some (.string d.a)/\X.frozen? ⟨b,20,none⟩=false)/\X.cell? (Zd b 21)=some (.string d.b)/\X.frozen? ⟨b,21,none⟩=false:=by obtain⟨m,n,o,q,r,s,t,u,v,x,e,f,g,i,j,k,l,rfl⟩:=Hq c;exact⟨h 0 _ rfl,h 20 _ rfl,h 21 _ rfl⟩
theorem LO(h:Aa X b (dL d a))(c:Int):Aa (X.setCell (Zd b 0) (Zg c)) b (dL ⟨c,d.v,d.s,d.n,d.a,d.b⟩ a):=h.set 0 _
theorem UP(h:Aa X b (dL d a))(e:a.length=17)(c:Int)(p q:Zi):Aa (((X.setCell (Zd b 0) (Zg c)).setCell (Zd b 20) (.string p)).setCell (Zd b 21) (.string q)) b (dL ⟨c,d.v,d.s,d.n,p,q⟩ a):=by obtain⟨n,o,r,s,t,u,v,x,y,z,f,g,i,j,k,l,m,rfl⟩:=Hq e;exact((h.set 0 _).set 20 _).set 21 _
def Ju(v:Vd)(e:Ed)(Z:Rs->Zk->Nat->Zk->Nat->Zk->Nat->Zh->Prop)(X:Zh)(ch:Zj):Prop:=
 (∃c p q,e.no v c p q/\ch=Co c p q)\/∃r ta tc pa pc la lc,e.yes v r/\ch=[Ze,Zg v.wd,Zg r.D,Zg r.G,Zg r.C,.slice ta r.ks.length tc,.slice pa r.ps.length pc,.slice la r.ls.length lc,.string r.sm,Zg r.le,Zc,Zc]/\Z r ta tc pa pc la lc X
theorem Ju.small{e:Ed}{Z:Rs->Zk->Nat->Zk->Nat->Zk->Nat->Zh->Prop}(h:Ju v e Z X a):a.length=12/\∀u∈a,u.oneCell'=true:=by
 rcases h with⟨c,p,q,_,rfl⟩|⟨r,i,j,f,g,b,d,_,rfl,_⟩
 .exact⟨rfl,by simp[Co,Value.oneCell']⟩
 .exact⟨rfl,by simp[Value.oneCell']⟩
theorem AD.dt{d:Zh}{a:Nat}{k:Zj}(h:AD d a S U T P L Q M k v)(m:n<=a)(f:Zz d X):∀V c,(∀b∈V,b<n)->Tn V X c->Wx v c.heap.size c (Bh v S U T P L Q M):=fun V c i g=>by refine(h.stays (((Tn.of (V:=[]) f).mono Yu).trans g) (fun b j e=> ?_)).jb;have l:=h.lo b e;have:=i b j;omega
theorem AD.ap{d:Zj}(h:AD w c S U T P L Q M d v):(∀g,Al U=some g->Al S≠some g)/\∀g,Al U=some g->Al Q≠some g/\Al M≠some g:=by
 have a:=h.nd;unfold CK at a;generalize BO T P L d=B at *
 simp only[List.nodup_append,List.mem_append,Option.mem_toList]at a;refine⟨fun g b i=>a.1.2.2 g i g b rfl,fun g b=>⟨fun f=> ?_,fun e=> ?_⟩⟩
 .exact a.2.2 g (.inr b) g (.inr (.inl f)) rfl
 .exact a.2.2 g (.inr b) g (.inr (.inr e)) rfl
theorem LP(m now c b:Int)(a p l:Zk)(k pn j i h:Nat)(d:List Kd)(s:Zi)(w:Zh)(o:AI w w.heap.size a d)(Z:d.length<=1000)(q:¬Aw d s):
 Calls prog 129 #[.agg (Yj m now c b a d.length k p pn j l i h),.string s] w fun e L=>e=.returned (.agg (Co 2 ⟨#[]⟩ ⟨#[]⟩).toArray)/\Zz w L:=by
 obtain⟨W,f⟩:∃W,W=(w.alloc (.cells (Yj m now c b a d.length k p pn j l i h) 27)).alloc (.cells Yi 134):=⟨_,rfl⟩;have g:=(Bm f).1;have y:=(Bm f).2.2.1;have z:Aa W (w.heap.size+1) z12:=by have u:=Aa.new (w.alloc (.cells (Yj m now c b a d.length k p pn j l i h) 27)) z12 134;rw[World.size_alloc]at u;rw[f];exact u
 have r:=Yw (Cn m now c b a k (.slice p pn j) (.slice l i h) d s W w.heap.size (AI.below o g) g.size Yv);have Y:=Hi q;have t:=Yw f;have A:=Yw z;obtain⟨v0,E,F,G,H,I,J,K⟩:=AS y;clear f y z o q;go_enter func129,ntmps129;go_upto_region 1 with fail;rw[<-t.o];clear t;go_wp2_with fail;refine Calls.mono r.o ?_;rintro e M ⟨rfl,n⟩
 obtain⟨⟨N,q0⟩,⟨O,q1⟩,⟨P,q2⟩,⟨Q,q3⟩,⟨R,q4⟩,⟨S,q5⟩,⟨T,q6⟩,⟨U,q7⟩,⟨V,q8⟩,⟨X,q9⟩,⟨B,zA⟩,C,zB⟩:=BL (Aa.below (v:=Ze) A.o n);have x:=g.trans (n.mono g.size);generalize BX d s=fi at *
 clear v0 E F G H I J K r;go_wp2;refine bodyPost_ret (v:=.agg (Co 2 ⟨#[]⟩ ⟨#[]⟩).toArray) (by simp[results,results129,go_sem,N,O,P,Q,R,S,T,U,V,X,B,C,Co]) rfl ?_;exact⟨rfl,x.trans (Tn.below (BR M (w.heap.size+1) _ _ _ _ _ _ _ _ _ _ _ _) x.size (by intro v D;simp at D;omega))⟩
theorem Dg(f:Int)(x:Nat)(args:Array Value)(t now c a:Int)(n l i:Zk)(q o pn m k j:Nat)(s u d:Zi)(num:Int)(A:Zk)(C B:Nat)(w:Zh)(V:List Nat)(Q:Zh->Ending->Zh->Prop)(T:Ending->Zh->Prop)(hk:(f=1/\x=123/\args= #[.agg (Yj t now c a n q o l pn m i k j),.agg (Ye f s u num d A C B)])\/(f=2/\x=124/\args= #[.agg (Yj t now c a n q o l pn m i k j),.agg (Ye f s u num d A C B)])\/(f=3/\x=125/\args= #[.agg (Yj t now c a n q o l pn m i k j),.string u])\/(f=5/\x=127/\args= #[.agg (Yj t now c a n q o l pn m i k j),Zg num])\/(f=6/\x=128/\args= #[.agg (Yj t now c a n q o l pn m i k j),Zg num])\/(f=7/\x=129/\args= #[.agg (Yj t now c a n q o l pn m i k j),.string s]))(hV:∀b∈V,b<w.heap.size)(hc:∀X,Zz w X->w.heap.size+3<=X.heap.size->Calls prog x args X (Q X))(hf:∀X e r,Q X e r->Tn V X r/\∃(c0 c1 c2 c3 c4:Int) (M:Zk) (O N:Nat) (I:Zk) (K J:Nat) (E:Zk) (H F:Nat) (L:Zi) (G:Int) (U Y:Zi),e=.returned (.agg #[Zg c0,Zg c1,Zg c2,Zg c3,Zg c4,.slice M O N,.slice I K J,.slice E H F,.string L,Zg G,.string U,.string Y]))(hq:∀X e r g,Zz w X->w.heap.size+3<=X.heap.size->Q X e r->Tn [w.heap.size+2] r g->T e g):
 Calls prog 111 #[.agg (Yj t now c a n q o l pn m i k j),.agg (Ye f s u num d A C B)] w T:=by
 obtain⟨W,z⟩:∃W,W=((w.alloc (.cells (Yj t now c a n q o l pn m i k j) 27)).alloc (.cells (Ye f s u num d A C B) 162)).alloc (.cells Yi 134):=⟨_,rfl⟩;have Z:=(CZ z).1;have zE:=(CZ z).2.1;have x0:=(CZ z).2.2.1;have xe:Aa W (w.heap.size+1) (Yd f s u num d A C B):=by have y:=Aa.new (w.alloc (.cells (Yj t now c a n q o l pn m i k j) 27)) (Yd f s u num d A C B) 162;rw[World.size_alloc]at y;rw[z];exact Aa.below y (Zy)
 have x1:Aa W (w.heap.size+2) z12:=by have y:=Aa.new ((w.alloc (.cells (Yj t now c a n q o l pn m i k j) 27)).alloc (.cells (Ye f s u num d A C B) 162)) z12 134;rw[World.size_alloc,World.size_alloc]at y;rw[z];exact y
 have HC:=Yw (hc W Z Yv);have HQ:Hid (∀e r g,Q W e r->Tn [w.heap.size+2] r g->T e g):=fun e r g y h2=>hq W e r g Z Yv y h2;have HF:=Yw (hf W);have P:Hid (Aa W (w.heap.size+2) z12):=x1;have HV:Hid (∀b∈V,b<w.heap.size):=hV;have HW:=Yw z;obtain⟨v0,v1,v2,v3,v4,v5,v6⟩:=Aa.c7 x0 0 1 2 3 4 5 6;obtain⟨e0,e1,e2,e3,e4,e5⟩:=Aa.c6 xe 0 1 2 3 4 5;clear z x0 xe x1 hc hq hf hV Z
 rcases hk with⟨rfl,rfl,rfl⟩|⟨rfl,rfl,rfl⟩|⟨rfl,rfl,rfl⟩|⟨rfl,rfl,rfl⟩|⟨rfl,rfl,rfl⟩|⟨rfl,rfl,rfl⟩
 all_goals
  go_enter func111,ntmps111;go_upto_region 1 with fail;rw[<-HW.o];clear HW;go_wp2_with fail;refine Calls.mono HC.o ?_;intro e w1 D;obtain⟨R,c0,c1,c2,c3,c4,M,O,N,I,K,J,E,H,F,L,G,U,Y,rfl⟩:=HF.o e w1 D;have S:Aa w1 (w.heap.size+2) z12:=Aa.same P.o (R.block _ P.o.lt (fun h=>by have:=HV.o _ h;omega))
  obtain⟨⟨y0,q0⟩,⟨y1,q1⟩,⟨y2,q2⟩,⟨y3,q3⟩,⟨y4,q4⟩,⟨y5,q5⟩,⟨y6,q6⟩,⟨y7,q7⟩,⟨y8,q8⟩,⟨y9,q9⟩,⟨zB,zF⟩,zC,zG⟩:=BL S;have zA:=Yw D;clear D S R v0 v1 v2 v3 v4 v5 v6 e0 e1 e2 e3 e4 e5 HC HF;go_wp2
  refine bodyPost_ret (v:=.agg #[Zg c0,Zg c1,Zg c2,Zg c3,Zg c4,.slice M O N,.slice I K J,.slice E H F,.string L,Zg G,.string U,.string Y]) (by simp[results,results111,go_sem,y0,y1,y2,y3,y4,y5,y6,y7,y8,y9,zB,zC]) rfl ?_;exact HQ.o _ _ _ zA.o (BR w1 (w.heap.size+2) _ _ _ _ _ _ _ _ _ _ _ _)
theorem MV(h now b a:Int)(o m j:Zk)(r q pn n l k:Nat)(s L d:Zi)(num:Int)(M:Zk)(O N:Nat)(w:Zh)(K:Int)(Q:Zh->Ending->Zh->Prop)(Q':Ending->Zh->Prop)(zO:∀X,Zz w X->Calls prog 26 #[.agg (Yj h now b a o r q m pn n j l k),.string s] X fun e g=>e=.returned (Zg K)/\Zz X g)(zN:0<=K->∀X,Zz w X->w.heap.size+3<=X.heap.size->Calls prog 64 #[.agg (Yj h now b a o r q m pn n j l k)] X fun e g=>(∃F H G C E D z B A,e=.returned (.agg (Yj h now b a F H G C E D z B A))/\∀Y,Zz g Y->Calls prog 126 #[.agg (Yj h now b a F H G C E D z B A),.string s,Zg num] Y (Q X))/\Zz X g)(hf:∀X e g,Zz w X->Q X e g->Zz X g/\∃(c0 c1 c2 c3 c4:Int) (F:Zk) (H G:Nat) (C:Zk) (E D:Nat) (z:Zk) (B A:Nat) (zA:Zi) (Z:Int) (a' b':Zi),e=.returned (.agg #[Zg c0,Zg c1,Zg c2,Zg c3,Zg c4,.slice F H G,.slice C E D,.slice z B A,.string zA,Zg Z,.string a',.string b']))(zR:K<0->∀g,Zz w g->Q' (.returned (.agg (Co 2 ⟨#[]⟩ ⟨#[]⟩).toArray)) g)(hq:0<=K->∀X e g zT,Zz w X->w.heap.size+3<=X.heap.size->Q X e g->Tn [w.heap.size+2] g zT->Q' e zT):
 Calls prog 111 #[.agg (Yj h now b a o r q m pn n j l k),.agg (Ye 4 s L num d M O N)] w Q':=by
 obtain⟨W,I⟩:∃W,W=((w.alloc (.cells (Yj h now b a o r q m pn n j l k) 27)).alloc (.cells (Ye 4 s L num d M O N) 162)).alloc (.cells Yi 134):=⟨_,rfl⟩;have bW:=(CZ I).1;have zZ:=(CZ I).2.1;have i:=(CZ I).2.2.1;have x:Aa W (w.heap.size+1) (Yd 4 s L num d M O N):=by have S:=Aa.new (w.alloc (.cells (Yj h now b a o r q m pn n j l k) 27)) (Yd 4 s L num d M O N) 162;rw[World.size_alloc]at S;rw[I];exact Aa.below S (Zy)
 have P:Aa W (w.heap.size+2) z12:=by have S:=Aa.new ((w.alloc (.cells (Yj h now b a o r q m pn n j l k) 27)).alloc (.cells (Ye 4 s L num d M O N) 162)) z12 134;rw[World.size_alloc,World.size_alloc]at S;rw[I];exact S
 have zH:=Yw (zO W bW);have J:Hid (∀X,Zz W X->Aa X w.heap.size (Yh h now b a o r q m pn n j l k)/\Aa X (w.heap.size+1) (Yd 4 s L num d M O N)/\Aa X (w.heap.size+2) z12/\Zz w X):=fun X u=>⟨Aa.below i u,Aa.below x u,Aa.below (v:=Ze) P u,bW.trans (u.mono bW.size)⟩;have HW:=Yw I;have zG:=Yw zN;have HF:=Yw hf;have zV:=Yw zR;have HQ:=Yw hq;obtain⟨v0,v1,v2,v3,v4,v5,v6⟩:=Aa.c7 i 0 1 2 3 4 5 6
 obtain⟨e0,e1,e2,e3,e4,e5⟩:=Aa.c6 x 0 1 2 3 4 5;clear I i x P zO zN hf zR hq bW;go_enter func111,ntmps111;go_upto_region 1 with fail;rw[<-HW.o];clear HW;go_wp2_with fail;refine Calls.mono zH.o ?_;rintro e c ⟨rfl,zK⟩;have T:Hid (Zz W c):=zK;clear v0 v1 v2 v3 v4 v5 v6 e0 e1 e2 e3 e4 e5 zH zK;obtain⟨i,x,P,V⟩:=J.o c T.o;by_cases hneg:K<0
 .obtain⟨⟨y0,q0⟩,⟨y1,q1⟩,⟨y2,q2⟩,⟨y3,q3⟩,⟨y4,q4⟩,⟨y5,q5⟩,⟨y6,q6⟩,⟨y7,q7⟩,⟨y8,q8⟩,⟨y9,q9⟩,⟨zB,zX⟩,zC,zY⟩:=BL P;have zE:=Yw V;clear i x P V J;go_wp2;refine bodyPost_ret (v:=.agg (Co 2 ⟨#[]⟩ ⟨#[]⟩).toArray) (by simp[results,results111,go_sem,y0,y1,y2,y3,y4,y5,y6,y7,y8,y9,zB,zC,Co]) rfl ?_
  exact zV.o hneg _ (zE.o.trans (Tn.below (BR c (w.heap.size+2) _ _ _ _ _ _ _ _ _ _ _ _) zE.o.size (by intro v hv;simp at hv;omega)))
 .have h0:0<=K:=Yv
  have D1:Below c.heap.size c c.drew:=(Below.refl _ _).drew;have bd:=T.o.trans (D1.mono T.o.size);have t:=(J.o _ bd).2.2.2;have zS:w.heap.size+3<=c.drew.heap.size:=by have:=bd.size;omega
  have zF:=Yw (zG.o h0 c.drew t zS);have y:=Yw bd
  have P1:c.drew.cell? (Zd (w.heap.size) 0)=some (Zg h)/\c.drew.cell? (Zd (w.heap.size) 1)=some (Zg now)/\c.drew.cell? (Zd (w.heap.size) 2)=some (Zg b)/\c.drew.cell? (Zd (w.heap.size) 3)=some (Zg a)/\c.drew.cell? (Zd (w.heap.size) 4)=some (.slice o r q)/\c.drew.cell? (Zd (w.heap.size) 5)=some (.slice m pn n)/\c.drew.cell? (Zd (w.heap.size) 6)=some (.slice j l k)/\c.drew.cell? (Zd (w.heap.size+1) 1)=some (.string s)/\c.drew.cell? (Zd (w.heap.size+1) 3)=some (Zg num):=⟨(i 0 _ rfl).1,(i 1 _ rfl).1,(i 2 _ rfl).1,(i 3 _ rfl).1,(i 4 _ rfl).1,(i 5 _ rfl).1,(i 6 _ rfl).1,(x 1 _ rfl).1,(x 3 _ rfl).1⟩
  have HS:Hid (∀X,Zz W X->X.cell? (Zd (w.heap.size) 0)=some (Zg h)/\X.cell? (Zd (w.heap.size) 1)=some (Zg now)/\X.cell? (Zd (w.heap.size) 2)=some (Zg b)/\X.cell? (Zd (w.heap.size) 3)=some (Zg a)/\X.cell? (Zd (w.heap.size) 4)=some (.slice o r q)/\X.cell? (Zd (w.heap.size) 5)=some (.slice m pn n)/\X.cell? (Zd (w.heap.size) 6)=some (.slice j l k)/\X.cell? (Zd (w.heap.size+1) 1)=some (.string s)/\X.cell? (Zd (w.heap.size+1) 3)=some (Zg num)):=fun X u=>by
   obtain⟨f,R,_⟩:=J.o X u;exact⟨(f 0 _ rfl).1,(f 1 _ rfl).1,(f 2 _ rfl).1,(f 3 _ rfl).1,(f 4 _ rfl).1,(f 5 _ rfl).1,(f 6 _ rfl).1,(R 1 _ rfl).1,(R 3 _ rfl).1⟩
  have zJ:Hid (∀X Y,Zz W X->Tn [w.heap.size+1+1] X Y->Y.cell? (Zd (w.heap.size) 0)=some (Zg h)/\Y.cell? (Zd (w.heap.size) 1)=some (Zg now)/\Y.cell? (Zd (w.heap.size) 2)=some (Zg b)/\Y.cell? (Zd (w.heap.size) 3)=some (Zg a)/\Y.cell? (Zd (w.heap.size) 4)=some (.slice o r q)/\Y.cell? (Zd (w.heap.size) 5)=some (.slice m pn n)/\Y.cell? (Zd (w.heap.size) 6)=some (.slice j l k)/\Y.cell? (Zd (w.heap.size+1) 1)=some (.string s)/\Y.cell? (Zd (w.heap.size+1) 3)=some (Zg num)):=fun X Y u hY=>by
   obtain⟨z0,z1,_⟩:=J.o X u;have f:=Aa.same z0 (hY.block _ z0.lt Yt);have R:=Aa.same z1 (hY.block _ z1.lt Yu);exact⟨(f 0 _ rfl).1,(f 1 _ rfl).1,(f 2 _ rfl).1,(f 3 _ rfl).1,(f 4 _ rfl).1,(f 5 _ rfl).1,(f 6 _ rfl).1,(R 1 _ rfl).1,(R 3 _ rfl).1⟩
  have zU:=hneg;clear i x P V bd P1;go_upto_region 11 with fail
  go_region_held3 (fun X=>X.cell? (Zd (w.heap.size) 0)=some (Zg h)/\X.cell? (Zd (w.heap.size) 1)=some (Zg now)/\X.cell? (Zd (w.heap.size) 2)=some (Zg b)/\X.cell? (Zd (w.heap.size) 3)=some (Zg a)/\X.cell? (Zd (w.heap.size) 4)=some (.slice o r q)/\X.cell? (Zd (w.heap.size) 5)=some (.slice m pn n)/\X.cell? (Zd (w.heap.size) 6)=some (.slice j l k)/\X.cell? (Zd (w.heap.size+1) 1)=some (.string s)/\X.cell? (Zd (w.heap.size+1) 3)=some (Zg num))
   (first|with_reducible exact HS.o _ y.o|with_reducible exact HS.o _ B2|with_reducible exact HS.o _ B3|with_reducible exact zJ.o _ _ B3 (BR _ _ _ _ _ _ _ _ _ _ _ _ _ _))
   (first
     |(go_at_call 64;refine Calls.mono zF.o ?_;rintro e w2 ⟨⟨F,H,G,C,E,D,z,B,A,rfl,zP⟩,zM⟩;have B2:Below W.heap.size W w2:=y.o.trans (zM.mono y.o.size);have zI:=Yw (zP w2 (Below.refl _ _));clear zP zM)
     |(go_at_call 126;refine Calls.mono zI.o ?_;intro e w3 U;obtain⟨hb3,c0,c1,c2,c3,c4,ua',un',uc',va',vn',vc',xa',xn',xc',zA,Z,a',b',rfl⟩:=HF.o c.drew e w3 t U;have B3:Below W.heap.size W w3:=y.o.trans (hb3.mono y.o.size);have zW:=Yw U;obtain⟨_,_,zz1,_⟩:=J.o w3 B3;obtain⟨⟨y0,q0⟩,⟨y1,q1⟩,⟨y2,q2⟩,⟨y3,q3⟩,⟨y4,q4⟩,⟨y5,q5⟩,⟨y6,q6⟩,⟨y7,q7⟩,⟨y8,q8⟩,⟨y9,q9⟩,⟨zB,zX⟩,zC,zY⟩:=BL zz1;clear U hb3 zz1))
  clear zI zF HS zJ zG HF;go_wp2;refine bodyPost_ret (v:=.agg #[Zg c0,Zg c1,Zg c2,Zg c3,Zg c4,.slice ua' un' uc',.slice va' vn' vc',.slice xa' xn' xc',.string zA,Zg Z,.string a',.string b']) (by simp[results,results111,go_sem,y0,y1,y2,y3,y4,y5,y6,y7,y8,y9,zB,zC]) rfl ?_;exact HQ.o h0 c.drew _ _ _ t zS zW.o (BR w3 (w.heap.size+2) _ _ _ _ _ _ _ _ _ _ _ _)
theorem Qv{a:List Ld}{k:Nat}{x:Ld}(n:Int)(c:a[k]?=some x):BH (a.take (k+1)) n=BH (a.take k) n++(if x.V<=n then []else [x]):=by obtain⟨b,rfl⟩:=Zw c;unfold BH;rw[Zu b,List.filter_append];by_cases h:a[k].V<=n<;>simp[h]
def RN(w w':Zh)(e:Ending)(wd now given births:Int)(T P:Value)(ls:List Ld)(ticks:Int):Prop:=
 Below w.heap.size w w'/\((1000000000<now+ticks/\e=.returned (.agg #[Zg 4,Ze,Ze,Ze,Ze,Zb,Zb,Zb,Zc,Ze,Zc,Zc]))\/
  (now+ticks<=1000000000/\∃g c,e=.returned (.agg #[Ze,Zg wd,Zg (now+ticks),Zg given,Zg births,T,P,.slice (some ⟨g,0,none⟩) (BH ls (now+ticks)).length c,Zc,Ze,Zc,Zc])/\w'.ownsRow w.heap.size 61 3 (.slice (some ⟨g,0,none⟩) (BH ls (now+ticks)).length c) (BH ls (now+ticks)).length (Ai lC (BH ls (now+ticks)))))
theorem Qw(t now d b:Int)(o m A:Zk)(s r pn n D:Nat)(f:List Ld)(a:Int)(w:Zh)(l:AR w w.heap.size A f)(hl:f.length<=1000)(zF:0<=now)(zG:now<=1000000000)(zI:0<=a)(zJ:a<=1000000000):
 Calls prog 128 #[.agg (Yj t now d b o s r m pn n A f.length D),Zg a] w fun e w'=>RN w w' e t now d b (.slice o s r) (.slice m pn n) f a:=by
 obtain⟨W,u⟩:∃W,W=(w.alloc (.cells (Yj t now d b o s r m pn n A f.length D) 27)).alloc (.cells Yi 134):=⟨_,rfl⟩;have C:=(Bm u).1;have zA:=(Bm u).2.1;have E:=(Bm u).2.2.1;have M:Aa W (w.heap.size+1) z12:=by have h1:=Aa.new (w.alloc (.cells (Yj t now d b o s r m pn n A f.length D) 27)) z12 134;rw[World.size_alloc]at h1;rw[u];exact h1
 have zS:=Nu zF zG zI zJ;have I:=Yw u;by_cases hbig:1000000000<now+a
 .obtain⟨⟨y0,q0⟩,⟨y1,q1⟩,⟨y2,q2⟩,⟨y3,q3⟩,⟨y4,q4⟩,⟨y5,q5⟩,⟨y6,q6⟩,⟨y7,q7⟩,⟨y8,q8⟩,⟨y9,q9⟩,⟨G,zK⟩,H,zM⟩:=BL M;obtain⟨c1,_⟩:=E 1 _ rfl;have HB:=Yw C;have j:=Yw hbig;clear u E M l C zA;go_enter func128,ntmps128;go_upto_region 1 with fail;rw[<-I.o];clear I;go_wp2;refine bodyPost_ret (v:=.agg (Yg 4)) (by simp[results,results128,go_sem,y0,y1,y2,y3,y4,y5,y6,y7,y8,y9,G,H]) rfl ?_
  exact⟨HB.o.trans (Tn.below (BR W (w.heap.size+1) _ _ _ _ _ _ _ _ _ _ _ _) HB.o.size (by intro v hv;simp at hv;omega)),.inl ⟨j.o,rfl⟩⟩
 .obtain⟨X,J⟩:∃X,X=W.setCell (Zd (w.heap.size) 1) (Zg (now+a)):=⟨_,rfl⟩;have L:Tn [w.heap.size] W X:=by rw[J];exact Bd _ _ _ _
  have F:w.heap.size+2<=X.heap.size:=by have:=L.size;omega
  have u0:Aa X w.heap.size (Yh t (now+a) d b o s r m pn n A f.length D):=by rw[J];exact E.set 1 _
  have u1:=Aa.same M (L.block _ Yv Yu);have HX:Hid (∀Y,Below (w.heap.size+2) X Y->Aa Y w.heap.size (Yh t (now+a) d b o s r m pn n A f.length D)/\Aa Y (w.heap.size+1) z12):=fun Y hY=>⟨Aa.same u0 (hY.block _ Yv),Aa.same u1 (hY.block _ Yv)⟩;have S:=Yw J;have HR:=Yw l;have zC:=Yw (C.trans (L.below C.size Yu));have j:=Yw (Int.not_lt.1 hbig)
  have bA:Below X.heap.size X (X.alloc (.cells #[] 61)):=Zy;have Q:Hid ((X.alloc (.cells #[] 61)).ownsRow (w.heap.size+2) 61 3 (Yz X.heap.size 0 0) 0 []):=World.ownsRow_lit (base:=w.heap.size+2) (e:=61) (size:=3) X #[] 0 F Yp rfl;have N:Hid (Below (w.heap.size+2) X (X.alloc (.cells #[] 61))):=bA.mono F;obtain⟨c1,f1⟩:=E 1 _ rfl;clear u J zA E M u0 u1 l C bA L
  go_enter func128,ntmps128;go_upto_region 1 with fail;rw[<-I.o];clear I;go_upto_region 4 with fail;rw[<-S.o];clear S c1 f1;go_wp2
  go_loopw [5,6] (fun v i wr=>∃(k g c:Nat),k<=f.length/\i=Zg k/\v=Yz g (BH (f.take k) (now+a)).length c/\Hid (wr.ownsRow (w.heap.size+2) 61 3 (Yz g (BH (f.take k) (now+a)).length c) (BH (f.take k) (now+a)).length (Ai lC (BH (f.take k) (now+a)))/\Below (w.heap.size+2) X wr)) (fun _ i _=>f.length -(intOf i).toNat)
  case atStart=>exact⟨0,X.heap.size,0,Nat.zero_le _,rfl,by simp[BH],⟨by simpa [BH,Ai]using Q.o,N.o⟩⟩
  case round=>
   clear Q N;obtain⟨k,g,c,hk,rfl,rfl,h⟩:=hrel;have z:=zC.o.trans (h.o.2.mono Yv);have zB:=Zm F h.o.2.size;obtain⟨v0,v1,v2,v3,v4,v5,v6,v7⟩:=AS (HX.o _ h.o.2).1;by_cases hlt:k<f.length
   .obtain⟨b',off,ha,hb,T⟩:=(AR.below HR.o z).at hlt;subst ha;have HG:=Yw (Zv hlt);obtain⟨c0,c1,c2⟩:=T k _ HG.o;have R:=Yw (Qv (now+a) HG.o);have zP:(BH (f.take k) (now+a)).length<=1000:=by have:=List.length_filter_le (fun x:Ld=> !decide (x.V<=(now+a))) (f.take k);unfold BH;rw[List.length_take]at this;omega
    have zN:b'<wr.heap.size:=by have:=z.size;omega
    have zR:(k:Int)<f.length:=Yv
    clear T;generalize f[k]=x at *
    generalize hGk:BH (f.take k) (now+a)=gk at *
    have zO:=Yw hGk;clear hGk;by_cases hxn:x.V<=(now+a)
    .have K:decide ((now+a)<x.V)=false:=Yt
     have B:Hid (BH (f.take (k+1)) (now+a)=gk):=by show _=_;rw[R.o,if_pos hxn,List.append_nil]
     clear hxn;have O:Hid (wr.drew.ownsRow (w.heap.size+2) 61 3 (Yz g gk.length c) gk.length (Ai lC gk)/\Below (w.heap.size+2) X wr.drew):=⟨Ap h.o.1 ((Below.refl _ _).drew),h.o.2.drew⟩;clear h;go_upto_region 8 with fail;go_region_with fail
     all_goals
      go_wp2;exact⟨⟨k+1,g,c,Yv,Yo,by rw[B.o],⟨by rw[B.o];exact O.o.1,O.o.2⟩⟩,by simp[intOf];omega⟩
    .have K:decide ((now+a)<x.V)=true:=Yt
     have B:Hid (BH (f.take (k+1)) (now+a)=gk++[x]):=by show _=_;rw[R.o,if_neg hxn]
     clear hxn;obtain⟨g8,y,w8,zH,Z,U,zE⟩:=PL wr.drew (w.heap.size+2) _ gk (Ap h.o.1 ((Below.refl _ _).drew)) x Yv zB 25;have b8:=(Below.refl _ _).grown U zB (fun q e=>(Ad h.o.1 e).1);have H8:Hid (w8.ownsRow (w.heap.size+2) 61 3 (Yz g8 (gk.length+1) y) (gk++[x]).length (Ai lC (gk++[x]))/\Below (w.heap.size+2) X w8):=⟨Z,h.o.2.drew.trans b8⟩;clear Z U zE b8 h;go_upto_region 8 with fail
     go_region_with fail
     all_goals
      go_wp2_with (at_builtin;first|(refine wpList_append_run rfl _ _ 25 25 rfl rfl rfl zH ?_));go_wp2;exact⟨⟨k+1,g8,y,Yv,Yo,by rw[B.o,List.length_append];rfl,⟨by rw[B.o,List.length_append];exact List.length_append▸H8.o.1,H8.o.2⟩⟩,by simp[intOf];omega⟩
   .obtain rfl:k=f.length:=Yv
    have hO:=h.o.1;rw[Zt (Zx)]at hO |-;have HO:=Yw hO;have P:=Yw z;obtain⟨⟨y0,q0⟩,⟨y1,q1⟩,⟨y2,q2⟩,⟨y3,q3⟩,⟨y4,q4⟩,⟨y5,q5⟩,⟨y6,q6⟩,⟨y7,q7⟩,⟨y8,q8⟩,⟨y9,q9⟩,⟨G,zK⟩,H,zM⟩:=BL (HX.o _ h.o.2).2;have f6:=((HX.o _ h.o.2).1 6 _ rfl).2;clear hO z h;go_wp2
    refine bodyPost_ret (v:=.agg #[Ze,Zg t,Zg (now+a),Zg d,Zg b,.slice o s r,.slice m pn n,Yz g (BH f (now+a)).length c,Zc,Ze,Zc,Zc]) (by simp[results,results128,go_sem,y0,y1,y2,y3,y4,y5,y6,y7,y8,y9,G,H]) rfl ?_
    have T':=(Tn.set (V:=[w.heap.size,w.heap.size+1]) wr w.heap.size 6 (Yz g (BH f (now+a)).length c) Yu).trans (Tn.mono (BR (wr.setCell (Zd (w.heap.size) 6) (Yz g (BH f (now+a)).length c)) (w.heap.size+1) Ze (Zg t) (Zg (now+a)) (Zg d) (Zg b) (.slice o s r) (.slice m pn n) (Yz g (BH f (now+a)).length c) Zc Ze Zc Zc) Yu)
    exact⟨P.o.trans (T'.below P.o.size (by intro v hv;simp at hv;omega)),.inr ⟨j.o,g,c,rfl,(As HO.o (fun q K=>T'.block q (Ad HO.o K).2 (by have:=(Ad HO.o K).1;simp;omega))).mono Yv⟩⟩
end Go.Proofs.YtmjlkgpekcnacaaGreat
