import Derived.Test.YtcfjcdpkpiidkaaGreatX23
import Derived.Test.YtcfjcdpkpiidkaaGreatX09
import Derived.Test.YtcfjcdpkpiidkaaGreatX21
set_option maxRecDepth 100000
set_option maxHeartbeats 16000000
namespace Go.Proofs.YtcfjcdpkpiidkaaGreat
open ChangeShapes WideShapes ChangeAt RowKit _root_.Go.Proofs.Tryz
variable{w X W Y:Zh}{l a:Zj}{B c b n q m:Nat}{S U T P L Q M:Value}{v:Vd}{d:Dd}{wd now given births:Int}{ks:List Kd}{s:Zi}{ps:List Pd}{ls:List Ld}{u r:UR}{qs ms:Zl}
def En:Zj:=[Ze,Ze,Ze,Zb,Zb,Ze,Ze,Ze,Ze,Zb,Zb,Zb,Ze,Zb,Zb,Ze,Ze,Ze,Zc,Ze,Zc,Zc]
theorem Aa.iw{o:Nat}{t:TypeId}(h:w.heap[o]?=some (.cells l.toArray t (0,0))):Aa w o l:=fun j v a=>by refine⟨?_,by simp[World.frozen?,h]⟩;simp[World.cell?,h];exact a
theorem Aa.dw:∀(vs l1 l2 l3:Zj) (w:Zh),Aa w B (l1++(l2++l3))->vs.length=l2.length->Aa (w.setCells B l1.length vs) B (l1++(vs++l3))
 |[],l1,[],l3,w,h,_=>h
 |v::r,l1,u::l2,l3,w,h,hl=>by have a:=h.set l1.length v;rw[show(l1++(u::l2++l3)).set l1.length v=(l1++[v])++(l2++l3) by simp]at a;have b:=Aa.dw r (l1++[v]) l2 l3 _ a (by simpa using hl);rw[List.length_append,List.length_singleton,List.append_assoc,List.singleton_append,<-List.cons_append]at b;exact b
 |[],_,_::_,_,_,_,h=>by simp at h
 |_::_,_,[],_,_,_,h=>by simp at h
theorem Aa.dm(a c d:Zj)(h:Aa w B (a++(c++d))):w.there B a.length c.length:=fun j e=>by have b:=h (a.length+j) _ (Zv Yt);exact⟨by rw[b.1];rfl,b.2⟩
theorem AG.apart{h:Zj}(A:Ah w c S v.ss)(C:Ah w c U v.A)(n:∀g,Aj S=some g->Aj U≠some g)(i:Bb w c T P L h v.ks v.ps v.ls)(z:Ah w c Q v.D)(y:Ah w c M v.ms)(l:∀g,Aj Q=some g->Aj M≠some g)(r:∀g,Aj S=some g\/Aj U=some g->g∉BS T P L h)(t:∀g,Aj Q=some g\/Aj M=some g->g∉BS T P L h)(x:∀g j,Aj S=some g\/Aj U=some g->Aj Q=some j\/Aj M=some j->g≠j):AG w c S U T P L Q M h v:=by
 refine⟨A,C,i,z,y,?_⟩;have k:=i.nd;rw[EJ]at k;unfold Dw;generalize BS T P L h=B at *
 generalize Aj S=s at *
 generalize Aj U=u at *
 generalize Aj Q=q at *
 generalize Aj M=m at *
 have one:∀o:Option Nat,o.toList.Nodup:=fun o=>by cases o<;>simp
 simp only[List.nodup_append,List.mem_append,Option.mem_toList];refine⟨⟨one _,one _,fun a f b d e=>n a f (e▸d)⟩,⟨k,⟨one _,one _,fun a f b d e=>l a f (e▸d)⟩,fun a f b d e=>t b d (e▸f)⟩,fun a f b d e=> ?_⟩;rcases d with d|d
 .exact r a f (e▸d)
 .exact x a b f d e
theorem TV{a:Zi}(h:¬a=⟨#[]⟩):a.toList.isEmpty=false:=by
 cases e:a.toList with
 |nil=>exact absurd (toList_inj (b:=⟨#[]⟩) (by rw[e];simp)) h
 |cons x l=>rfl
def dL(d:Dd)(vs:Zj):Zj:=Zg d.c::(vs++[.string d.s,Zg d.n,.string d.a,.string d.b])
theorem WE(h:Aa X b (dL d a))(c:a.length=17):X.cell? (Zd b 0)=some (Zg d.c)/\X.cell? (Zd b 18)=some (.string d.s)/\X.cell? (Zd b 19)=some (Zg d.n)/\X.cell? (Zd b 20)=some (.string d.a)/\X.cell? (Zd b 21)=some (.string d.b)/\X.rangeAt b 1 a:=by
 have e:∀j u,[Value.string d.s,Zg d.n,.string d.a,.string d.b][j]?=some u->X.cell? (Zd b (18+j))=some u:=fun j u f=>(h (18+j) u (by
  unfold dL;rw[show 18+j=(17+j)+1 by omega,List.getElem?_cons_succ,List.getElem?_append_right Yv,c,show 17+j -17=j by omega];exact f)).1
 exact⟨(h 0 _ rfl).1,e 0 _ rfl,e 1 _ rfl,e 2 _ rfl,e 3 _ rfl,Aa.fh [Zg d.c] a _ h⟩
theorem Lj{b:Zj}(h:b.length=17/\∀u∈b,u.oneCell'=true):(dL d b).length=22/\∀u∈dL d b,u.oneCell'=true:=by
 refine⟨by simp[dL,h.1],fun u a=> ?_⟩;simp only[dL,List.mem_cons,List.mem_append,List.not_mem_nil,or_false]at a;rcases a with rfl|a|rfl|rfl|rfl|rfl
 .rfl
 .exact h.2 u a
 .rfl
 .rfl
 .rfl
 .rfl
theorem Aa.jb(h:Aa X b l)(c:l.length=n+1):b<X.heap.size:=by
 cases l with
 |nil=>simp at c
 |cons a l=>exact h.lt
theorem MT(h:Aa X b (dL d a))(c:a.length=17):(X.cell? (Zd b 0)=some (Zg d.c)/\X.frozen? ⟨b,0,none⟩=false)/\(X.cell? (Zd b 20)=some (.string d.a)/\X.frozen? ⟨b,20,none⟩=false)/\X.cell? (Zd b 21)=some (.string d.b)/\X.frozen? ⟨b,21,none⟩=false:=by obtain⟨m,n,o,q,r,s,t,u,v,x,e,f,g,i,j,k,l,rfl⟩:=Hf c;exact⟨h 0 _ rfl,h 20 _ rfl,h 21 _ rfl⟩
theorem LG(h:Aa X b (dL d a))(c:Int):Aa (X.setCell (Zd b 0) (Zg c)) b (dL ⟨c,d.v,d.s,d.n,d.a,d.b⟩ a):=h.set 0 _
theorem Vw(h:Aa X b (dL d a))(e:a.length=17)(c:Int)(p q:Zi):Aa (((X.setCell (Zd b 0) (Zg c)).setCell (Zd b 20) (.string p)).setCell (Zd b 21) (.string q)) b (dL ⟨c,d.v,d.s,d.n,p,q⟩ a):=by obtain⟨n,o,r,s,t,u,v,x,y,z,f,g,i,j,k,l,m,rfl⟩:=Hf e;exact((h.set 0 _).set 20 _).set 21 _
def Jf(v:Vd)(e:Ed)(Z:Rs->Zk->Nat->Zk->Nat->Zk->Nat->Zh->Prop)(X:Zh)(ch:Zj):Prop:=
 (∃c p q,e.no v c p q/\ch=BY c p q)\/∃r ta tc pa pc la lc,e.yes v r/\ch=[Ze,Zg v.wd,Zg r.E,Zg r.G,Zg r.C,.slice ta r.ks.length tc,.slice pa r.ps.length pc,.slice la r.ls.length lc,.string r.sm,Zg r.le,Zc,Zc]/\Z r ta tc pa pc la lc X
theorem Jf.small{e:Ed}{Z:Rs->Zk->Nat->Zk->Nat->Zk->Nat->Zh->Prop}(h:Jf v e Z X a):a.length=12/\∀u∈a,u.oneCell'=true:=by
 rcases h with⟨c,p,q,_,rfl⟩|⟨r,i,j,f,g,b,d,_,rfl,_⟩
 .exact⟨rfl,by simp[BY,Value.oneCell']⟩
 .exact⟨rfl,by simp[Value.oneCell']⟩
theorem AG.ap{d:Zj}(h:AG w c S U T P L Q M d v):(∀g,Aj U=some g->Aj S≠some g)/\∀g,Aj U=some g->Aj Q≠some g/\Aj M≠some g:=by
 have a:=h.nd;unfold Dw at a;generalize BS T P L d=B at *
 simp only[List.nodup_append,List.mem_append,Option.mem_toList]at a;refine⟨fun g b i=>a.1.2.2 g i g b rfl,fun g b=>⟨fun f=> ?_,fun e=> ?_⟩⟩
 .exact a.2.2 g (.inr b) g (.inr (.inl f)) rfl
 .exact a.2.2 g (.inr b) g (.inr (.inr e)) rfl
theorem Pb(v:Vd)(a:Va)(w:Zh)(C:∀X,Zz w X->Calls prog 70 #[.agg #[.slice a.g v.ss.length a.sc,.slice a.X v.A.length a.Z]] X fun e A=>∃x j y k,e=.returned (.agg #[Yz x v.ss.length j,Yz y v.A.length k])/\A.ownsRow X.heap.size 9 1 (Yz x v.ss.length j) v.ss.length (v.ss.map Value.string)/\A.ownsRow X.heap.size 9 1 (Yz y v.A.length k) v.A.length (v.A.map Value.string)/\x≠y/\Zz X A)(N:∀X,Zz w X->Calls prog 52 #[.agg (Yg v.P v.E v.G v.C a.U v.ks.length a.W a.N v.ps.length a.T a.K v.ls.length a.Q)] X fun e A=>∃T P L r,e=.returned (.agg #[Zg v.P,Zg v.E,Zg v.G,Zg v.C,T,P,L])/\Bb A X.heap.size T P L r v.ks v.ps v.ls/\(∀u∈T::P::L::r,∃g n c,u=Yz g n c)/\Zz X A)(h3:∀X,Zz w X->Calls prog 133 #[.agg (Ye v.H a.i v.D.length a.qc a.j v.ms.length a.mc v.O v.M v.ro)] X fun e A=>∃i d f b,e=.returned (.agg (Ye v.H (some ⟨i,0,none⟩) v.D.length d (some ⟨f,0,none⟩) v.ms.length b v.O v.M v.ro))/\A.ownsRow X.heap.size 9 1 (Yz i v.D.length d) v.D.length (v.D.map Value.string)/\A.ownsRow X.heap.size 9 1 (Yz f v.ms.length b) v.ms.length (v.ms.map Value.string)/\i≠f/\Zz X A):
 Calls prog 101 #[.agg (Xq v a)] w fun e A=>∃(S U T P L Q M:Value) (r:Zj),e=.returned (.agg #[Zg v.wd,Zg v.lim,S,U,Zg v.P,Zg v.E,Zg v.G,Zg v.C,T,P,L,Zg v.H,Q,M,Zg v.O,Zg v.M,Zg v.ro])/\AG A w.heap.size S U T P L Q M r v/\(∀u∈S::U::Q::M::T::P::L::r,∃g n c,u=Yz g n c)/\Zz w A:=by
 obtain⟨W,O⟩:=Af ((w.alloc (.cells (Xq v a) 69)).alloc (.cells Xp 69));have F:=(Bf O).1;have zW:=(Bf O).2.1;have HX:Hid (Aa W _ _):=(Bf O).2.2.1;have HZ:Hid (Aa W (w.heap.size+1) Xo):=by have C:=Aa.new (w.alloc (.cells (Xq v a) 69)) Xo 69;rw[World.size_alloc]at C;show Aa W (w.heap.size+1) Xo;rw[O];exact C
 have H1:=Yw C;have H2:=Yw N;have H3:=Yw h3;have J:Hid (∀X,Zz W X->Aa X w.heap.size (Xn v a)):=fun X Z=>Aa.below HX.o Z;have HW:=Yw O;clear O C N h3;go_enter func101,ntmps101;go_upto_region 1 with fail;rw[<-HW.o];clear HW
 go_cut [0] (fun u wx=>∃x j y k s t o q l m r i d f b,Hid (Aa wx (w.heap.size+1) (Xm v (some ⟨x,0,none⟩) j (some ⟨y,0,none⟩) k s t o q l m (some ⟨i,0,none⟩) d (some ⟨f,0,none⟩) b)/\Zz w wx/\AG wx w.heap.size (Yz x v.ss.length j) (Yz y v.A.length k) (.slice s v.ks.length t) (.slice o v.ps.length q) (.slice l v.ls.length m) (Yz i v.D.length d) (Yz f v.ms.length b) r v/\∀u∈(.slice s v.ks.length t)::(.slice o v.ps.length q)::(.slice l v.ls.length m)::r,∃g n c,u=Yz g n c))
 case first=>
  refine wp_region_held_drew (S:=fun X=>Aa X w.heap.size (Xn v a)) Yr (J.o _ Ad.drew) (fun hS=> ?_);refine BF 0 (Yy w.heap.size) ?_;try simp only[Act.put,Zq,Zp,Zo]
  refine EG 1 (Zg v.wd) rfl (by exact Or.inl ⟨Yp,fun X Z=>by have h0:=(Z 0 _ rfl).1;go_simp⟩) ?_;try simp only[Act.put,Zq,Zp,Zo]
  refine BF 2 (Yx w.heap.size 1) ?_;try simp only[Act.put,Zq,Zp,Zo]
  refine EG 3 (Zg v.lim) rfl (by exact Or.inl ⟨Yp,fun X Z=>by have h0:=(Z 1 _ rfl).1;go_simp⟩) ?_;try simp only[Act.put,Zq,Zp,Zo]
  refine BF 4 (Yx w.heap.size 2) ?_;try simp only[Act.put,Zq,Zp,Zo]
  refine EG 5 (.agg #[.slice a.g v.ss.length a.sc,.slice a.X v.A.length a.Z]) rfl (by exact yieldsIf_load_mid Yp 67 _ rfl (w.heap.size) 2 rfl [.slice a.g v.ss.length a.sc,.slice a.X v.A.length a.Z] _ (fun X h=>Aa.fh [Zg v.wd,Zg v.lim] [.slice a.g v.ss.length a.sc,.slice a.X v.A.length a.Z] [Zg v.P,Zg v.E,Zg v.G,Zg v.C,.slice a.U v.ks.length a.W,.slice a.N v.ps.length a.T,.slice a.K v.ls.length a.Q,Zg v.H,.slice a.i v.D.length a.qc,.slice a.j v.ms.length a.mc,Zg v.O,Zg v.M,Zg v.ro] h) underlying67 rfl Yr) ?_
  try simp only[Act.put,Zq,Zp,Zo]
  refine BF 7 (Yx w.heap.size 4) ?_;try simp only[Act.put,Zq,Zp,Zo]
  refine EG 8 (.agg (Yg v.P v.E v.G v.C a.U v.ks.length a.W a.N v.ps.length a.T a.K v.ls.length a.Q)) rfl (by exact yieldsIf_load_mid Yp 27 _ rfl (w.heap.size) 4 rfl (Yh v.P v.E v.G v.C a.U v.ks.length a.W a.N v.ps.length a.T a.K v.ls.length a.Q) _ (fun X h=>Aa.fh [Zg v.wd,Zg v.lim,.slice a.g v.ss.length a.sc,.slice a.X v.A.length a.Z] (Yh v.P v.E v.G v.C a.U v.ks.length a.W a.N v.ps.length a.T a.K v.ls.length a.Q) (Xv v.H a.i v.D.length a.qc a.j v.ms.length a.mc v.O v.M v.ro) h) underlying27 rfl Yr) ?_
  try simp only[Act.put,Zq,Zp,Zo]
  refine BF 10 (Yx w.heap.size 11) ?_;try simp only[Act.put,Zq,Zp,Zo]
  refine EG 11 (.agg (Ye v.H a.i v.D.length a.qc a.j v.ms.length a.mc v.O v.M v.ro)) rfl (by exact yieldsIf_load_mid Yp 31 _ rfl (w.heap.size) 11 rfl (Xv v.H a.i v.D.length a.qc a.j v.ms.length a.mc v.O v.M v.ro) _ (fun X h=>Aa.fh [Zg v.wd,Zg v.lim,.slice a.g v.ss.length a.sc,.slice a.X v.A.length a.Z,Zg v.P,Zg v.E,Zg v.G,Zg v.C,.slice a.U v.ks.length a.W,.slice a.N v.ps.length a.T,.slice a.K v.ls.length a.Q] (Xv v.H a.i v.D.length a.qc a.j v.ms.length a.mc v.O v.M v.ro) [] h) underlying31 rfl Yr) ?_
  try simp only[Act.put,Zq,Zp,Zo]
  refine Cm 6 (fun K B=> ?_);go_simp;refine(H1.o W.drew F.drew).mono ?_;rintro e w1 ⟨x,j,y,k,rfl,zM,G,zE,zK⟩;have B1:=(Below.refl W.heap.size W).drew.trans zK;try go_simp
  refine B.out _ _ (J.o w1 B1) (fun zS=> ?_);clear B K;try simp only[Act.put,Zq,Zp,Zo]
  refine Cm 9 (fun K B=> ?_);go_simp;refine(H2.o w1 (F.trans (B1.mono F.size))).mono ?_;rintro e w2 ⟨T,P,L,r,rfl,zA,zH,R⟩;obtain⟨s,t,o,q,l,m,rfl,rfl,rfl,_⟩:=zA.rows;have I:=B1.trans (R.mono B1.size);try go_simp
  refine B.out _ _ (J.o w2 I) (fun zT=> ?_);clear B K;try simp only[Act.put,Zq,Zp,Zo]
  refine Cm 12 (fun K B=> ?_);go_simp;refine(H3.o w2 (F.trans (I.mono F.size))).mono ?_;rintro e w3 ⟨i,d,f,b,rfl,zN,H,zF,V⟩;have Y:Below W.heap.size W w3:=I.trans (V.mono I.size);try go_simp
  refine B.out _ _ (J.o w3 Y) (fun zU=> ?_);clear B K;try simp only[Act.put,Zq,Zp,Zo]
  refine BF 13 (.agg (Xl v (some ⟨x,0,none⟩) j (some ⟨y,0,none⟩) k s t o q l m (some ⟨i,0,none⟩) d (some ⟨f,0,none⟩) b)) ?_;try simp only[Act.put,Zq,Zp,Zo]
  refine Cm 14 (fun K B=> ?_)
  have zJ:AG w3 W.heap.size (Yz x v.ss.length j) (Yz y v.A.length k) (.slice s v.ks.length t) (.slice o v.ps.length q) (.slice l v.ls.length m) (Yz i v.D.length d) (Yz f v.ms.length b) r v:=AG.of (n1:=w1.heap.size) (n2:=w2.heap.size) (Ah.own (Al (Al zM R) V)) (Ah.own (Al (Al G R) V)) (fun g C N=>by cases C;cases N;exact zE rfl) (fun g z=>by rcases z with z|z;(cases z;exact(zM.lt _ rfl).2);(cases z;exact(G.lt _ rfl).2)) (zA.below V) zK.size zA.co (Ah.own (zN.mono I.size)) (Ah.own (H.mono I.size)) (fun g z=>by rcases z with z|z;(cases z;exact(zN.lt _ rfl).1);(cases z;exact(H.lt _ rfl).1)) R.size (fun g C N=>by cases C;cases N;exact zF rfl)
  have zG:((Xl v (some ⟨x,0,none⟩) j (some ⟨y,0,none⟩) k s t o q l m (some ⟨i,0,none⟩) d (some ⟨f,0,none⟩) b):Array Value).all (·.oneCell')=true:=by simp[Value.oneCell']
  have zI:=Aa.below (v:=Ze) HZ.o Y;obtain⟨W9,zB⟩:=Af (w3.setCells (w.heap.size+1) 0 (Xm v (some ⟨x,0,none⟩) j (some ⟨y,0,none⟩) k s t o q l m (some ⟨i,0,none⟩) d (some ⟨f,0,none⟩) b));have x9:Aa W9 (w.heap.size+1) (Xm v (some ⟨x,0,none⟩) j (some ⟨y,0,none⟩) k s t o q l m (some ⟨i,0,none⟩) d (some ⟨f,0,none⟩) b):=by rw[zB];exact zI.ar _ rfl
  have t9:Tn [w.heap.size+1] w3 W9:=by rw[zB];exact AF _ _ _ _
  have z3:=Y.size;have B9:Below w.heap.size w W9:=(F.trans (Y.mono F.size)).trans (t9.below Yv Yu);have zP:AG W9 w.heap.size (Yz x v.ss.length j) (Yz y v.A.length k) (.slice s v.ks.length t) (.slice o v.ps.length q) (.slice l v.ls.length m) (Yz i v.D.length d) (Yz f v.ms.length b) r v:=(zJ.stays t9 (fun g z zR=>by have:=zJ.y g zR;simp at z;omega)).mono Yv
  have zC:=Yw (Zn x9 (Zn B9 (Zn zP zH)));have zO:=Aa.same (Aa.below HX.o Y) (t9.block _ Yv Yu);rw[if_pos Yp];refine wp_store_mid 69 _ _ rfl (w.heap.size+1) 0 (Xl v (some ⟨x,0,none⟩) j (some ⟨y,0,none⟩) k s t o q l m (some ⟨i,0,none⟩) d (some ⟨f,0,none⟩) b) rfl rfl zI.there Yr zG ?_;try rw[<-zB]
  refine B.out _ _ zO (fun zV=> ?_);clear B K;try simp only[Act.put]
  refine wpAnyH_done Yr ?_ _;go_wp2_with fail;go_meet;exact⟨x,j,y,k,s,t,o,q,l,m,r,i,d,f,b,zC.o⟩
 case rest=>
  obtain⟨x,j,y,k,s,t,o,q,l,m,r,i,d,f,b,HQ⟩:=hcut;go_wp2;refine bodyPost_ret (AU results101 _ _ (w.heap.size+1) (Xm v (some ⟨x,0,none⟩) j (some ⟨y,0,none⟩) k s t o q l m (some ⟨i,0,none⟩) d (some ⟨f,0,none⟩) b) _ rfl HQ.o.1.range underlying69 rfl Yr) rfl ?_;refine⟨_,_,_,_,_,_,_,r,rfl,HQ.o.2.2.1,fun u E=> ?_,HQ.o.2.1⟩;rcases List.mem_cons.1 E with rfl|E
  .exact⟨_,_,_,rfl⟩
  rcases List.mem_cons.1 E with rfl|E
  .exact⟨_,_,_,rfl⟩
  rcases List.mem_cons.1 E with rfl|E
  .exact⟨_,_,_,rfl⟩
  rcases List.mem_cons.1 E with rfl|E
  .exact⟨_,_,_,rfl⟩
  exact HQ.o.2.2.2 u E
structure RX (wd births:Int) (ks:List Kd) (ps:List Pd) (ls:List Ld):Prop where
 b1:∀k∈ks,1<=k.born/\k.born<=births
 un:∀x∈ks,∀y∈ks,x.born=y.born->x=y
 rs:∀k∈ks,∀r∈k.B,(r.size:Int)=wd
 fg:∀p∈ps,(p.sum.size:Int)=wd
 fv:∀l∈ls,(l.sum.size:Int)=wd
theorem FV(h:DR wd ks)(a:Ay ks s):(s.size:Int)=wd:=by obtain⟨u,b,e⟩:=a;rw[<-e];exact h.sz u b
theorem RX.step{z:Int}{u:Zi}{num:Int}{c:Zi}{b:Zl}(h:RX wd births ks ps ls)(n:Gr wd now given births ks ps ls){r:Rs}(g:Fe wd now given births ks ps ls z s u num c b r):RX wd r.C r.ks r.ps r.ls:=by
 have i:∀(x:Ld),(x.sum.size:Int)=wd->∀l∈ls++[x],(l.sum.size:Int)=wd:=fun x j l f=>by
  rcases List.mem_append.1 f with f|f
  .exact h.fv l f
  .rw[List.mem_singleton.1 f];exact j
 rcases g with⟨rfl,m,f,E,A,B,g,rfl⟩|⟨_,m,_,rfl⟩|⟨_,_,rfl⟩|⟨_,m,_,_,rfl⟩|⟨_,_,rfl⟩|⟨_,_,rfl⟩|⟨_,_,_,rfl⟩
 .rcases g with⟨_,_,_,_,rfl,rfl⟩|⟨_,_,_,rfl,rfl⟩
  .exact⟨h.b1,h.un,h.rs,h.fg,i _ (FA _ _ _ n.w1)⟩
  .have o:∀k∈ED ks ⟨Ch c b wd,births+1,c,b⟩,k=⟨Ch c b wd,births+1,c,b⟩\/k∈ks:=fun k d=>List.mem_cons.1 ((Ms ks _).mem_iff.1 d);have C:=n.az;refine⟨fun k d=> ?_,fun x j y g e=> ?_,fun k d r t=> ?_,h.fg,i _ (FA _ _ _ n.w1)⟩
   .rcases o k d with rfl|d
    .exact⟨by show 1<=births+1;omega,Int.le_refl _⟩
    .have:=h.b1 k d;exact⟨this.1,by show _<=births+1;omega⟩
   .rcases o x j with rfl|j<;>rcases o y g with rfl|g
    .rfl
    .have:=(h.b1 y g).2;have v:births+1=y.born:=e;omega
    .have:=(h.b1 x j).2;have v:x.born=births+1:=e;omega
    .exact h.un x j y g e
   .rcases o k d with rfl|d
    .exact FV n.bt (m r t)
    .exact h.rs k d r t
 .refine⟨h.b1,h.un,h.rs,fun p q=> ?_,h.fv⟩;have a:p∈BD ps u s:=q;unfold BD at a;rcases List.mem_append.1 a with a|a
  .rcases List.mem_append.1 a with a|a
   .exact h.fg p (List.mem_filter.1 a).1
   .rw[List.mem_singleton.1 a];exact FV n.bt m
  .exact h.fg p (List.mem_filter.1 a).1
 .exact⟨h.b1,h.un,h.rs,fun p q=>h.fg p (List.mem_filter.1 q).1,h.fv⟩
 .exact⟨h.b1,h.un,h.rs,h.fg,i _ (FV n.bt m)⟩
 .exact⟨h.b1,h.un,h.rs,h.fg,fun l f=>h.fv l (List.mem_filter.1 f).1⟩
 .exact⟨h.b1,h.un,h.rs,h.fg,fun l f=>h.fv l (List.mem_filter.1 f).1⟩
 .exact⟨fun k d=>h.b1 k (List.mem_filter.1 d).1,fun x j y g e=>h.un x (List.mem_filter.1 j).1 y (List.mem_filter.1 g).1 e,fun k d=>h.rs k (List.mem_filter.1 d).1,h.fg,h.fv⟩
theorem Cx.rx:∀{xs:Zl} {r r':Rs},Cx wd r xs r'->r.ok wd->RX wd r.C r.ks r.ps r.ls->RX wd r'.C r'.ks r'.ps r'.ls
 |[],r,r',h,_,hx=>by obtain rfl:r'=r:=h;exact hx
 |x::xs,r,r',h,hr,hx=>by obtain⟨c,a,b⟩:=h;exact Cx.rx b (a.ok hr) (hx.step hr a.2)
def UR.and(u r:UR):UR:=⟨r.ks,r.H,r.O,r.M,r.ro,r.D,r.ms,u.S++r.S⟩
def Ec(v:Vd):UR:=⟨v.ks,v.H,v.O,v.M,v.ro,v.D,v.ms,[]⟩
def Oj(ps:List Pd)(ls:List Ld)(births:Int)(u r:UR):Prop:=UTo u.ks ps ls births u.H u.O u.M u.ro u.D u.ms r
structure Jg (wd births:Int) (ps:List Pd) (ls:List Ld) (free:Nat) (u:UR):Prop where
 ok:Sm wd births u.ks ps ls u.H u.ro u.D u.ms
 un:∀x∈u.ks,∀y∈u.ks,x.born=y.born->x=y
 ql:u.D.length<=23200
 ml:u.ms.length<=600
 dl:u.S.length+u.ks.length<=600
 df:u.S.length<=free
theorem Ol{r:Rs}(h:Em v r):Jg v.wd v.C v.ps v.ls (4000 -(v.ss++v.A).length) (Ec v):=by
 have a:=h.dy;have c:RX v.wd r.C r.ks r.ps r.ls:=h.run.rx (Fs h.wd.1 h.wd.2) ⟨by simp[r0],by simp[r0],by simp[r0],by simp[r0],by simp[r0]⟩;obtain⟨⟨_,_,_,e⟩,f,g,i⟩:=h.same;rw[e,f,g,i]at c;have b:=h.round;have l:=b.bz.nq;have j:=b.bz.nm
 refine⟨⟨a.bt,fun k d=>(c.b1 k d).1,fun k d=>⟨a.di k d,c.rs k d⟩,a.np,a.nl,c.fg,c.fv,a.az,a.ak,?_,b.iu,b.ix,b.bz.q,b.bz.m,by show v.D.length<=_;omega,by show v.ms.length<=_;omega⟩,c.un,by show v.D.length<=_;omega,by show v.ms.length<=_;omega,by show 0+v.ks.length<=600;have:=a.bt.len;omega,Nat.zero_le _⟩;rcases b.H with h|h|h
 .exact .inl h.1
 .exact .inr (.inl h.1)
 .exact .inr (.inr h.1)
theorem QW(i:∀p∈ps,(p.sum.size:Int)=wd)(g:∀l∈ls,(l.sum.size:Int)=wd):∀x∈Br ps ls,(x.size:Int)=wd:=by
 have b:∀(e c:Zl),(∀x∈e,(x.size:Int)=wd)->(∀x∈c,(x.size:Int)=wd)->∀x∈e.foldl Av c,(x.size:Int)=wd:=by
  intro e;induction e with
  |nil=>intro c _ h x a;exact h x a
  |cons y ys ih=>
   intro c d f;refine ih _ (fun x a=>d x (List.mem_cons_of_mem _ a)) (fun x a=> ?_);unfold Av at a;split at a
   .exact f x a
   .rcases List.mem_append.1 a with a|a
    .exact f x a
    .rw[List.mem_singleton.1 a];exact d y Yu
 unfold Br;refine b _ _ (fun x a=> ?_) (b _ _ (fun x a=> ?_) Yu)
 .obtain⟨l,d,rfl⟩:=List.mem_map.1 a;exact g l d
 .obtain⟨p,d,rfl⟩:=List.mem_map.1 a;exact i p d
theorem Jg.step{free:Nat}(h:Jg wd births ps ls free u)(v:Oj ps ls births u r)(K:u.ro≠1000000000)(C:r.D.length<=23200)(B:r.ms.length<=600)(l:r.S=[]\/u.S.length<free):Jg wd births ps ls free (u.and r):=by
 have a:=UTo.sub v;have d:=h.ok.r1;have c:=h.ok.r0;have hlen:=a.length_le;have z:DR wd r.ks:=by have k:=h.ok.ok;exact⟨k.nd.sublist (a.map _),k.ct.sublist (a.map _),fun x b=>k.sz x (a.subset b),fun x b=>k.B x (a.subset b),Zm hlen k.len,k.w8⟩
 have A:∀x∈r.ks,∀y∈r.ks,x.born=y.born->x=y:=fun x b y F e=>h.un x (a.subset b) y (a.subset F) e;have j:∀k∈r.ks,1<=k.born:=fun k i=>h.ok.born k (a.subset i);have hrefs:∀k∈r.ks,k.B.length<=30/\∀r∈k.B,(r.size:Int)=wd:=fun k i=>h.ok.B k (a.subset i)
 have f:∀(n:r.H=0\/r.H=1\/r.H=2) (g:0<=r.ro) (t:r.ro<=1000000000) (q:∀x∈r.D,(x.size:Int)=wd) (m:∀x∈r.ms,(x.size:Int)=wd),(r.S.length+r.ks.length<=u.ks.length)->r.S.length<=1->Jg wd births ps ls free (u.and r):=fun n g t q m L G=>by
  have I:=h.dl;have H:=h.df;refine⟨⟨z,j,hrefs,h.ok.pl,h.ok.ll,h.ok.fg,h.ok.fv,h.ok.b0,h.ok.b1,n,g,t,q,m,by show r.D.length<=_;omega,by show r.ms.length<=_;omega⟩,A,C,B,?_,?_⟩
  .show(u.S++r.S).length+r.ks.length<=600;rw[List.length_append];omega
  .show(u.S++r.S).length<=free;rw[List.length_append];rcases l with l|l
   .rw[l,List.length_nil];omega
   .omega
 cases v with
 |begin g=>exact f (.inr (.inl rfl)) c d (QW h.ok.fg h.ok.fv) h.ok.gx Yu Yu
 |mark g s q0 qs' ms' hqq hmm=>
  have o:∀x∈q0,(x.size:Int)=wd:=fun x b=>h.ok.jf x (by rw[hqq];exact List.mem_cons_of_mem _ b);have E:(s.size:Int)=wd:=h.ok.jf s (by rw[hqq];simp);rcases hmm with⟨_,rfl,rfl⟩|⟨k,i,_,_,rfl,rfl⟩
  .exact f h.ok.je c d o h.ok.gx Yu Yu
  .refine f h.ok.je c d (fun x b=> ?_) (fun x b=> ?_) Yu Yu
   .rcases List.mem_append.1 b with b|b
    .exact o x b
    .exact(h.ok.B k i).2 x (List.mem_filter.1 b).1
   .rcases List.mem_append.1 b with b|b
    .exact h.ok.gx x b
    .rw[List.mem_singleton.1 b];exact E
 |rest g hqq hn=>exact f (.inl rfl) (by show 0<=u.ro+1;omega) (by show u.ro+1<=_;omega) Yu Yu Yu Yu
 |ah g hqq x b i=>exact f (.inr (.inr rfl)) c d Yu h.ok.gx Yu Yu
 |drop g hqq x b hmm i=>
  refine f (.inr (.inr rfl)) c d Yu h.ok.gx ?_ Yu;have J:(Bt u.ks x.sum).length<u.ks.length:=by unfold Bt;exact List.length_filter_lt_length_iff_exists.2 ⟨x,b.1,Yu⟩
  show 1+(Bt u.ks x.sum).length<=u.ks.length;omega
theorem UTo.some(h:Oj ps ls births u r)(a:r.S≠[]):r.D=[]/\r.ms=u.ms/\∃s,r.S=[s]:=by
 cases h with
 |begin h0=>exact absurd rfl a
 |mark h0 s q0 qs' ms' hqq hmm=>exact absurd rfl a
 |rest h0 hqq hn=>exact absurd rfl a
 |ah h0 hqq x hx hk=>exact absurd rfl a
 |drop h0 hqq x hx hmm hk=>exact⟨rfl,rfl,_,rfl⟩
inductive ClTo (births:Int) (ps:List Pd) (ls:List Ld) (free units:Nat):Nat->UR->Option (UR×Nat)->Prop
 |fin (n:Nat) (u:UR) (h:units<=n):ClTo births ps ls free units n u (some (u,n))
 |old (n:Nat) (u:UR) (h:n<units) (hr:u.ro=1000000000):ClTo births ps ls free units n u none
 |full (n:Nat) (u r:UR) (h:n<units) (hr:u.ro≠1000000000) (ht:Oj ps ls births u r) (hd:r.S≠[]) (hf:¬u.S.length<free):ClTo births ps ls free units n u (some (u,n))
 |long (n:Nat) (u r:UR) (h:n<units) (hr:u.ro≠1000000000) (ht:Oj ps ls births u r) (hl:23200<r.D.length\/600<r.ms.length):ClTo births ps ls free units n u none
 |step (n:Nat) (u r:UR) (o:Option (UR×Nat)) (h:n<units) (hr:u.ro≠1000000000) (ht:Oj ps ls births u r) (hq:r.D.length<=23200) (hm:r.ms.length<=600) (hf:r.S=[]\/u.S.length<free) (hs:ClTo births ps ls free units (n+1) (u.and r) o):ClTo births ps ls free units n u o
def Om(v:Vd)(l:Zl):Vd:={v with ss:=l,A:=[]}
theorem AG.flushed{u:Value}{f:Zj}{l:Zl}(h:AG X c S U T P L Q M f v)(i:∀g∈Dw S U T P L Q M f,g<n)(j:Ah X n u l)(o:c<=n):AG X c u Zb T P L Q M f (Om v l):=by
 refine⟨j.mono o,Ah.nil _ _,h.R,h.q,h.m,?_⟩;have d:=h.nd;unfold Dw at d i |-;have e:(Aj Zb).toList=[]:=rfl;rw[e,List.append_nil];refine List.nodup_append.2 ⟨?_,(List.nodup_append.1 d).2.1,fun a m b k e=> ?_⟩
 .cases Aj u<;>simp
 .have q:=(j.V (Option.mem_toList.1 m)).1;have r:=i b (List.mem_append.2 (.inr k));omega
theorem QX(v:Vd)(q r s t:Value)(R:Zj)(l:Zl)(w:Zh)(hl:R.length=13)(hV:∀X,Zz w X->Calls prog 100 #[.agg (q::r::s::t::R).toArray] X fun e A=>Ao (Cl v) X A e)(hC:Cl v->∀X,Zz w X->Calls prog 101 #[.agg (q::r::s::t::R).toArray] X fun e A=>∃(S U T P L Q M:Value) (C:Zj),e=.returned (.agg (Bn v S U T P L Q M).toArray)/\AG A X.heap.size S U T P L Q M C v/\Zz X A)(hS:Cl v->∀X,Zz w X->Calls prog 102 #[.agg #[s,t]] X fun e A=>∃u,e=.returned (.agg #[u,Zb])/\A.ownsRow X.heap.size 9 1 u l.length (l.map Value.string)/\Zz X A):
 Calls prog 80 #[.agg (q::r::s::t::R).toArray] w fun e A=>∃(u:Vd) (S U T P L Q M:Value) (C:Zj),(¬Cl v/\u=v0\/Cl v/\u=Om v l)/\e=.returned (.agg (Bn u S U T P L Q M).toArray)/\AG A w.heap.size S U T P L Q M C u/\Zz w A:=by
 obtain⟨W,hW⟩:=Af ((w.alloc (.cells (q::r::s::t::R).toArray 69)).alloc (.cells Xp 69));have bW:=(Bf hW).1;have zW:=(Bf hW).2.1;have HX:Hid (Aa W w.heap.size (q::r::s::t::R)):=(Bf hW).2.2.1;have HZ:Hid (Aa W (w.heap.size+1) BB):=(Bf (k:=BB) hW).2.2.2;have zT:Hid ((q::r::s::t::R).length=17):=by show(q::r::s::t::R).length=17;simp[hl]
 have HV:=Yw hV;have HC:=Yw hC;have HS:=Yw hS;have HW:=Yw hW;clear hW hV hC hS hl;go_enter func80,ntmps80;go_upto_region 1 with fail;rw[<-HW.o];clear HW;go_wp2_with (refine wpList_load_mid rfl 69 _ rfl w.heap.size 0 rfl (q::r::s::t::R) _ HX.o.range underlying69 rfl (by rw[zT.o];kernel_rfl) ?_);refine(HV.o W bW).mono ?_;rintro e B ⟨o,rfl,ho,I⟩;have z1:=I.size
 have zN:Hid (Aa B w.heap.size (q::r::s::t::R)):=Aa.below HX.o I;have zA:Hid (Aa B (w.heap.size+1) BB):=Aa.below (v:=Ze) HZ.o I;have E:Hid (Zz w B):=bW.trans (I.mono bW.size);clear I HV HX HZ bW;cases o with
 |false=>
  have yE:Hid (¬Cl v):=fun h=>by have:=ho.2 h;cases this
  clear ho HC HS;have O:BB.toArray.all (·.oneCell')=true:=by simp[BB,Value.oneCell']
  have zS:=Yw (Zn O zA.o.there);obtain⟨W9,zH⟩:=Af (B.setCells (w.heap.size+1) 0 BB);have x9:Aa W9 (w.heap.size+1) BB:=by rw[zH];exact zA.o.ar _ rfl
  have b9:Below w.heap.size w W9:=E.o.trans (by rw[zH];exact(AF _ _ _ _).below E.o.size Yu);have yH:=Yw zH;clear O zH;go_wp2_with (refine wpList_store_mid rfl 69 _ _ rfl (w.heap.size+1) 0 Xp rfl rfl zS.o.2 Yr zS.o.1 ?_);change bodyPost _ _ _ _ _ (B.setCells (w.heap.size+1) 0 BB);rw[<-yH.o]
  refine bodyPost_ret (AU results80 _ _ (w.heap.size+1) BB _ rfl x9.range underlying69 rfl Yr) rfl ?_;exact⟨v0,_,_,_,_,_,_,_,[],.inl ⟨yE.o,rfl⟩,rfl,AG.nil _ _,b9⟩
 |true=>
  have F:Hid (Cl v):=ho.1 rfl;clear ho;go_wp2_with (refine wpList_load_mid rfl 69 _ rfl w.heap.size 0 rfl (q::r::s::t::R) _ zN.o.range underlying69 rfl (by rw[zT.o];kernel_rfl) ?_);refine(HC.o F.o B E.o).mono ?_;rintro e i ⟨S,U,T,P,L,Q,M,C,rfl,zC,zI⟩;obtain⟨c,zE⟩:∃c:Zj,c=[Zg v.P,Zg v.E,Zg v.G,Zg v.C,T,P,L,Zg v.H,Q,M,Zg v.O,Zg v.M,Zg v.ro]:=⟨_,rfl⟩
  have eR:Bn v S U T P L Q M=(Zg v.wd::Zg v.lim::S::U::c):=by rw[zE];rfl
  have j:(Zg v.wd::Zg v.lim::S::U::c).length=17:=by rw[zE];rfl
  have J:∀x∈(Zg v.wd::Zg v.lim::S::U::c),x.oneCell'=true:=by obtain⟨a,h,_⟩:=zC.jc;rw[<-eR,h];simp[Bn,Value.oneCell']
  have zM:Hid (∀g∈Dw S U T P L Q M C,g<i.heap.size):=zC.co;have yF:Hid (∀d f,Bn (Om v l) (.slice d l.length f) Zb T P L Q M=(Zg v.wd::Zg v.lim:: .slice d l.length f::Zb::c)):=fun d f=>by rw[zE];rfl
  rw[eR];have z2:=zI.size;obtain⟨y,zP⟩:=Af ((i.alloc (.cells Xp 69)).setCells i.heap.size 0 (Zg v.wd::Zg v.lim::S::U::c).toArray.toList);have hb:=boxed (X:=i) (cs:=(Zg v.wd::Zg v.lim::S::U::c)) (z:=BB) (T:=69) (by rw[j];rfl);have e3:y=(i.alloc (.cells BB.toArray 69)).setCells i.heap.size 0 (Zg v.wd::Zg v.lim::S::U::c):=zP;rw[<-e3]at hb;obtain⟨x3,b3,z3⟩:=hb
  have G:Hid ((i.alloc (.cells Xp 69)).there i.heap.size 0 (Zg v.wd::Zg v.lim::S::U::c).toArray.size/\(Zg v.wd::Zg v.lim::S::U::c).length=17/\∀x∈(Zg v.wd::Zg v.lim::S::U::c),x.oneCell'=true):=⟨by rw[show(Zg v.wd::Zg v.lim::S::U::c).toArray.size=17 from by rw[List.size_toArray];exact j];exact(Aa.new i BB 69).there,j,J⟩;have zU:=Yw zP;have zB:Below B.heap.size B y:=zI.trans (b3.mono zI.size)
  have zO:Hid (Aa y w.heap.size (q::r::s::t::R)):=Aa.below zN.o zB;have zX:Hid (Aa y (w.heap.size+1) BB):=Aa.below (v:=Ze) zA.o zB;have V:Hid (Zz w y):=E.o.trans (zB.mono E.o.size);have zK:Hid (AG y B.heap.size S U T P L Q M C v):=zC.below b3;have Z:=Yw x3;clear zP e3 x3 b3 zB zC zI eR j J zE zN zA HC
  go_upto_region 4 with(refine wpList_store_mid rfl 69 _ _ rfl i.heap.size 0 (Zg v.wd::Zg v.lim::S::U::c).toArray rfl rfl G.o.1 (by rw[List.size_toArray,G.o.2.1];kernel_rfl) (all_oneCell_toArray G.o.2.2) ?_);rw[<-zU.o];clear zU;obtain⟨y2,_⟩:=zO.o 2 _ rfl;obtain⟨y3,_⟩:=zO.o 3 _ rfl;go_wp2_with fail;refine(HS.o F.o y V.o).mono ?_;rintro e w4 ⟨u,rfl,zR,m⟩;obtain⟨d,f,rfl,_⟩:=(Ah.own zR).row
  have z4:=m.size;clear y2 y3 HS zO;obtain⟨K,zF⟩:=Af ((w4.setCell (Zd (i.heap.size) 2) (.slice d l.length f)).setCell (Zd (i.heap.size) 3) Zb);have t5:Tn [i.heap.size] w4 K:=by rw[zF];exact(Tn.set _ _ _ _ Yu).trans (Tn.set _ _ _ _ Yu)
  have yJ:Hid (Aa K i.heap.size (Zg v.wd::Zg v.lim:: .slice d l.length f::Zb::c)):=by show Aa K i.heap.size (Zg v.wd::Zg v.lim:: .slice d l.length f::Zb::c);rw[zF];exact((Aa.below Z.o m).set 2 (.slice d l.length f)).set 3 Zb
  have z5:=t5.size;have zY:Hid (Aa K (w.heap.size+1) BB):=Aa.same (Aa.below (v:=Ze) zX.o m) (t5.block _ Yv Yt);have j:(Zg v.wd::Zg v.lim:: .slice d l.length f::Zb::c).length=17:=by simpa using G.o.2.1
  have J:∀x∈(Zg v.wd::Zg v.lim:: .slice d l.length f::Zb::c),x.oneCell'=true:=fun x hx=>by
   have h1:=G.o.2.2 x;simp only[List.mem_cons]at hx h1;rcases hx with rfl|rfl|rfl|rfl|hx
   .rfl
   .rfl
   .rfl
   .rfl
   .exact h1 (.inr (.inr (.inr (.inr hx))))
  obtain⟨N,zG⟩:=Af (K.setCells (w.heap.size+1) 0 (Zg v.wd::Zg v.lim:: .slice d l.length f::Zb::c).toArray.toList);have t6:Tn [(w.heap.size+1)] K N:=by rw[zG];exact AF _ _ _ _
  have x6:Aa N (w.heap.size+1) (Zg v.wd::Zg v.lim:: .slice d l.length f::Zb::c):=by rw[zG];exact zY.o.ar _ (by rw[j];rfl)
  have zJ:Tn [i.heap.size,(w.heap.size+1)] w4 N:=(t5.mono Yu).trans (t6.mono Yu);have zZ:AG N B.heap.size S U T P L Q M C v:=(zK.o.below m).stays zJ (fun g hg yA=>by have h1:=zK.o.y g yA;have h2:=zM.o g yA;simp at hg;omega);have yB:Ah N y.heap.size (.slice d l.length f) l:=Ah.own (NQ zR zJ (fun b hb=>by simp at hb;omega))
  have yC:Hid (AG N w.heap.size (.slice d l.length f) Zb T P L Q M C (Om v l)):=(zZ.flushed (n:=y.heap.size) (fun g hg=>by have:=zM.o g hg;omega) yB Yv).mono (by have:=E.o.size;omega);have b4:Below w.heap.size w w4:=V.o.trans (m.mono V.o.size);have yD:Hid (Zz w N):=b4.trans (zJ.below b4.size (fun b hb=>by simp at hb;omega))
  have H:Hid (K.there (w.heap.size+1) 0 (Zg v.wd::Zg v.lim:: .slice d l.length f::Zb::c).toArray.size/\(Zg v.wd::Zg v.lim:: .slice d l.length f::Zb::c).length=17/\∀x∈(Zg v.wd::Zg v.lim:: .slice d l.length f::Zb::c),x.oneCell'=true):=⟨by rw[show(Zg v.wd::Zg v.lim:: .slice d l.length f::Zb::c).toArray.size=17 from by rw[List.size_toArray];exact j];exact zY.o.there,j,J⟩
  obtain⟨y2,f2⟩:=Aa.below Z.o m 2 _ rfl;obtain⟨y3,f3⟩:=Aa.below Z.o m 3 _ rfl;have zV:=Yw zF;have yG:=Yw zG;have yI:=Yw x6;clear zF zG x6 t5 t6 zJ zZ yB b4 J j zR m Z zK zX V zM;go_upto_region 5 with fail;rw[<-zV.o];clear zV y2 y3 f2 f3;go_wp2_with (first
   |refine wpList_load_mid rfl 69 _ rfl i.heap.size 0 rfl (Zg v.wd::Zg v.lim:: .slice d l.length f::Zb::c) _ yJ.o.range underlying69 rfl (by rw[H.o.2.1];kernel_rfl) ?_
   |refine wpList_store_mid rfl 69 _ _ rfl (w.heap.size+1) 0 (Zg v.wd::Zg v.lim:: .slice d l.length f::Zb::c).toArray rfl rfl H.o.1 (by rw[List.size_toArray,H.o.2.1];kernel_rfl) (all_oneCell_toArray H.o.2.2) ?_)
  rw[<-yG.o];refine bodyPost_ret (AU results80 _ _ (w.heap.size+1) (Zg v.wd::Zg v.lim:: .slice d l.length f::Zb::c) _ rfl (Aa.range yI.o) underlying69 rfl (by rw[H.o.2.1];kernel_rfl)) rfl ?_;exact⟨Om v l,.slice d l.length f,Zb,T,P,L,Q,M,C,.inr ⟨F.o,rfl⟩,by rw[yF.o],yC.o,yD.o⟩
def WW(v:Vd)(To:Vd->Prop)(w:Zh)(e:Ending)(w':Zh):Prop:=∃(u:Vd) (S U T P L Q M:Value) (rs:Zj),(¬Cl v/\u=v0\/Cl v/\To u)/\e=.returned (.agg (Bn u S U T P L Q M).toArray)/\AG w' w.heap.size S U T P L Q M rs u/\Zz w w'
def Iq(w:Zh)(To:Vd->Prop)(p:Value)(X:Zh):Prop:=
 ∃(b:Nat) (u:Vd) (S U T P L Q M:Value) (rs:Zj),p=.pointer (some ⟨b,0,none⟩)/\To u/\Aa X b (Bn u S U T P L Q M)/\Aa X (w.heap.size+1) BB/\AG X (w.heap.size+2) S U T P L Q M rs u/\Zz w X
theorem Iq.of{c:Vd->Prop}{u:Vd}(k:c u)(d:Aa X b BB)(h:Aa X (w.heap.size+1) BB)(i:AG X (w.heap.size+2) S U T P L Q M a u)(j:b∉Dw S U T P L Q M a)(l:w.heap.size+2<=b)(f:Zz w X):
 Iq w c (Yy b) (X.setCells b 0 (Bn u S U T P L Q M).toArray.toList):=by
 have t:=AF b (Bn u S U T P L Q M) 0 X;have m:=(d 0 _ rfl).1;refine⟨b,u,S,U,T,P,L,Q,M,a,rfl,k,d.ar _ rfl,Aa.same h (t.block _ h.lt Yt),i.stays t (fun g e=>by simp at e;subst e;exact j),f.trans (t.below f.size Yt)⟩
theorem Ju{c:Zj}{u:Vd}(h:AG X b S U T P L Q M c u):∀x∈(Bn u S U T P L Q M),x.oneCell'=true:=by obtain⟨a,e,_⟩:=h.jc;rw[e];simp[Bn,Value.oneCell']
theorem SC(v:Vd)(s t:Value)(R:Zj)(k:Int)(l:Zl)(To:Vd->Prop)(w:Zh)(hl:R.length=13)(hV:∀X,Zz w X->Calls prog 100 #[.agg (Zg v.wd::Zg v.lim::s::t::R).toArray] X fun e w'=>Ao (Cl v) X w' e)(hC:Cl v->∀X,Zz w X->Calls prog 103 #[.agg #[s,t],Zg k] X fun e w'=>∃u,e=.returned (.agg #[u,Zb])/\w'.ownsRow X.heap.size 9 1 u l.length (l.map Value.string)/\Zz X w')(hO:Cl v->∀X u n,Zz w X->X.ownsRow n 9 1 u l.length (l.map Value.string)->Calls prog 48 #[Zg v.wd,Zg v.lim,.agg #[u,Zb]] X fun e w'=>∃(c:Int) (u:Vd) (S U T P L Q M:Value) (rs:Zj),To u/\e=.returned (.tuple #[.agg (Bn u S U T P L Q M).toArray,Zg c])/\AG w' X.heap.size S U T P L Q M rs u/\Zz X w'):
 Calls prog 81 #[.agg (Zg v.wd::Zg v.lim::s::t::R).toArray,Zg k] w (WW v To w):=by
 obtain⟨W,hW⟩:=Af ((w.alloc (.cells (Zg v.wd::Zg v.lim::s::t::R).toArray 69)).alloc (.cells Xp 69));have bW:=(Bf hW).1;have zW:=(Bf hW).2.1;have HX:Hid (Aa W w.heap.size (Zg v.wd::Zg v.lim::s::t::R)):=(Bf hW).2.2.1;have HZ:Hid (Aa W (w.heap.size+1) BB):=(Bf (k:=BB) hW).2.2.2;have zT:Hid ((Zg v.wd::Zg v.lim::s::t::R).length=17):=by show(Zg v.wd::Zg v.lim::s::t::R).length=17;simp[hl]
 have HV:=Yw hV;have HC:=Yw hC;have HO:=Yw hO;have HW:=Yw hW;clear hW hV hC hO hl;go_enter func81,ntmps81;go_upto_region 1 with fail;rw[<-HW.o];clear HW;go_wp2_with (refine wpList_load_mid rfl 69 _ rfl w.heap.size 0 rfl (Zg v.wd::Zg v.lim::s::t::R) _ HX.o.range underlying69 rfl (by rw[zT.o];kernel_rfl) ?_);refine(HV.o W bW).mono ?_;rintro e a ⟨o,rfl,ho,zB⟩;have z1:=zB.size
 have zN:=Yw (Aa.below HX.o zB);have zF:Hid (Aa a (w.heap.size+1) BB):=Aa.below (v:=Ze) HZ.o zB;have zE:Hid (Zz w a):=bW.trans (zB.mono bW.size);clear zB HV HX HZ bW;cases o with
 |false=>
  have zU:Hid (¬Cl v):=fun h=>by have:=ho.2 h;cases this
  clear ho HC HO;have zC:BB.toArray.all (·.oneCell')=true:=by simp[BB,Value.oneCell']
  have zM:=Yw (Zn zC zF.o.there);obtain⟨W9,y⟩:=Af (a.setCells (w.heap.size+1) 0 BB);have x9:Aa W9 (w.heap.size+1) BB:=by rw[y];exact zF.o.ar _ rfl
  have b9:Below w.heap.size w W9:=zE.o.trans (by rw[y];exact(AF _ _ _ _).below zE.o.size Yu);have zI:=Yw y;clear zC y;go_wp2_with (refine wpList_store_mid rfl 69 _ _ rfl (w.heap.size+1) 0 Xp rfl rfl zM.o.2 Yr zM.o.1 ?_);change bodyPost _ _ _ _ _ (a.setCells (w.heap.size+1) 0 BB);rw[<-zI.o]
  refine bodyPost_ret (AU results81 _ _ (w.heap.size+1) BB _ rfl x9.range underlying69 rfl Yr) rfl ?_;exact⟨v0,_,_,_,_,_,_,_,[],.inl ⟨zU.o,rfl⟩,rfl,AG.nil _ _,b9⟩
 |true=>
  have r:Hid (Cl v):=ho.1 rfl;have C:Hid (∀X,Zz a X->Zz w X):=fun X hX=>zE.o.trans (hX.mono zE.o.size);have J:Hid (∀X,Zz a X->Aa X w.heap.size (Zg v.wd::Zg v.lim::s::t::R)/\Aa X (w.heap.size+1) BB):=fun X hX=>⟨Aa.below zN.o hX,Aa.below (v:=Ze) zF.o hX⟩;clear ho zN zF;go_upto_region 3 with fail;go_cut [5] (fun p wx=>Iq w To p wx)
  case first=>
   refine wp_region_held_drew (S:=fun X=>Zz a X) Yr Ad.drew (fun G=> ?_);refine BF 0 (Yy w.heap.size) ?_;try simp only[Act.put,Zq,Zp,Zo]
   refine EG 1 (Zg v.wd) rfl (by exact Or.inl ⟨Yp,fun X hX=>by have hc:=((J.o X hX).1 0 _ rfl).1;go_simp⟩) ?_;try simp only[Act.put,Zq,Zp,Zo]
   refine BF 2 (Yx w.heap.size 1) ?_;try simp only[Act.put,Zq,Zp,Zo]
   refine EG 3 (Zg v.lim) rfl (by exact Or.inl ⟨Yp,fun X hX=>by have hc:=((J.o X hX).1 1 _ rfl).1;go_simp⟩) ?_;try simp only[Act.put,Zq,Zp,Zo]
   refine BF 4 (Yx w.heap.size 2) ?_;try simp only[Act.put,Zq,Zp,Zo]
   refine EG 5 (.agg #[s,t]) rfl (by exact yieldsIf_load_mid Yp 67 _ rfl w.heap.size 2 rfl [s,t] _ (fun X h=>Aa.fh [Zg v.wd,Zg v.lim] [s,t] R (J.o X h).1) underlying67 rfl Yr) ?_;try simp only[Act.put,Zq,Zp,Zo]
   refine BF 6 (Zg k) ?_;try simp only[Act.put,Zq,Zp,Zo]
   have h1:=(Below.refl a.heap.size a).drew;refine wpAnyH_ready (rs:=[7,12]) Yr Yu ?_;refine(AllReadyH.cons (o:=⟨some 19,.call {callee:=Callee.value (.func 103),args:= #[.tmp 17,.tmp 18],argTypes:= #[67,3]},67,BK,#[Dk 5,Dk 6],none⟩) rfl (fun K d=> ?_) (AllReadyH.cons (o:=⟨some 5,.alloc 69,0,BK,#[],none⟩) rfl (fun K d=> ?_) AllReadyH.nil))
   .go_simp;refine(HC.o r.o a.drew (C.o a.drew h1)).mono ?_;rintro e B ⟨x,rfl,zH,N⟩;have A:Below a.heap.size a B:=h1.trans (N.mono h1.size);have z2:=N.size;have y2:=A.size;try go_simp
    refine d.out _ _ A (fun G=> ?_);clear d K;try simp only[Act.put,Zq,Zp,Zo]
    refine wpAnyH_ready (rs:=[8,12]) Yr Yu ?_;refine(AllReadyH.cons (o:=⟨some 20,.call {callee:=Callee.value (.func 48),args:= #[.tmp 13,.tmp 15,.tmp 19],argTypes:= #[3,3,67]},97,BK,#[Dk 1,Dk 3,Dk 7,⟨7,.chain⟩],none⟩) rfl (fun K d=> ?_) (AllReadyH.cons (o:=⟨some 5,.alloc 69,0,BK,#[],none⟩) rfl (fun K d=> ?_) AllReadyH.nil))
    .go_simp;refine(HO.o r.o B x _ (C.o B A) zH).mono ?_;rintro e i ⟨c,u,S,U,T,P,L,Q,M,rs,F,rfl,E,z⟩;have j:Below a.heap.size a i:=A.trans (z.mono A.size);have z3:=z.size;have y3:=j.size;try go_simp
     refine d.out _ _ j (fun G=> ?_);clear d K;try simp only[Act.put,Zq,Zp,Zo]
     refine BF 9 (.tuple #[.agg (Bn u S U T P L Q M).toArray,Zg c]) ?_;try simp only[Act.put,Zq,Zp,Zo]
     refine BF 10 (.agg (Bn u S U T P L Q M).toArray) ?_;try simp only[Act.put,Zq,Zp,Zo]
     refine BF 11 (Zg c) ?_;try simp only[Act.put,Zq,Zp,Zo]
     refine wpAnyH_ready (rs:=[12]) Yr Yu ?_;refine(AllReadyH.cons (o:=⟨some 5,.alloc 69,0,BK,#[],none⟩) rfl (fun K d=> ?_) AllReadyH.nil);go_simp;obtain⟨q,f⟩:=Af (i.alloc (.cells Xp 69));have zA:=(AL f).1;have zP:=(AL f).2.1;have V:Aa q i.heap.size BB:=(AL (l:=BB) f).2.2;have m:Below a.heap.size a q:=j.trans (zA.mono j.size);have y4:=m.size;try rw[<-f]
     clear f;refine d.out _ _ m (fun G=> ?_);clear d K;try simp only[Act.put,Zq,Zp,Zo]
     refine wpAnyH_ready (rs:=[13]) Yr Yu ?_;refine(AllReadyH.cons (o:=⟨none,.store 69 (.tmp 5) (.tmp 21),0,BK,#[Dk 12,Dk 10,⟨8,.chain⟩,Co 0,Co 1,Co 2,Co 3,Co 4,Co 5,Co 6,Co 7,Co 8,Co 9,Co 10,{on:=11,ground:=.textOnly Departure.lateStores},Co 12],none⟩) rfl (fun K d=> ?_) AllReadyH.nil);have Z:Aa q i.heap.size BB:=V
     have va:AG q (w.heap.size+2) S U T P L Q M rs u:=(E.below zA).mono Yv;have hE:Iq w To (Yy i.heap.size) (q.setCells i.heap.size 0 (Bn u S U T P L Q M).toArray.toList):=Iq.of F Z (J.o q m).2 va (fun H=>by have:=E.co _ H;omega) Yv (C.o q m);rw[if_pos Yp]
     refine wp_store_mid 69 _ _ rfl (i.heap.size) 0 (Bn u S U T P L Q M).toArray rfl rfl Z.there Yr (all_oneCell_toArray (Ju va)) ?_;refine d.out _ _ (m.trans ((AF _ _ _ _).below m.size Ym)) (fun G=> ?_);clear d K;try simp only[Act.put]
     refine BF 14 (Zg c) ?_;try simp only[Act.put,Zq,Zp,Zo]
     refine wpAnyH_done Yr ?_ _;go_wp2_with fail;go_meet;exact hE
    .go_simp;obtain⟨q,f⟩:=Af (B.alloc (.cells Xp 69));have zA:=(AL f).1;have zP:=(AL f).2.1;have V:Aa q B.heap.size BB:=(AL (l:=BB) f).2.2;have m:Below a.heap.size a q:=A.trans (zA.mono A.size);have y4:=m.size;try rw[<-f]
     clear f;refine d.out _ _ m (fun G=> ?_);clear d K;try simp only[Act.put,Zq,Zp,Zo]
     refine wpAnyH_ready (rs:=[8]) Yr Yu ?_;refine(AllReadyH.cons (o:=⟨some 20,.call {callee:=Callee.value (.func 48),args:= #[.tmp 13,.tmp 15,.tmp 19],argTypes:= #[3,3,67]},97,BK,#[Dk 1,Dk 3,Dk 7,⟨7,.chain⟩],none⟩) rfl (fun K d=> ?_) AllReadyH.nil);go_simp;refine(HO.o r.o q x _ (C.o q m) (Al zH zA)).mono ?_;rintro e i ⟨c,u,S,U,T,P,L,Q,M,rs,F,rfl,E,z⟩
     have j:Below a.heap.size a i:=m.trans (z.mono m.size);have z3:=z.size;have y3:=j.size;try go_simp
     refine d.out _ _ j (fun G=> ?_);clear d K;try simp only[Act.put,Zq,Zp,Zo]
     refine BF 9 (.tuple #[.agg (Bn u S U T P L Q M).toArray,Zg c]) ?_;try simp only[Act.put,Zq,Zp,Zo]
     refine BF 10 (.agg (Bn u S U T P L Q M).toArray) ?_;try simp only[Act.put,Zq,Zp,Zo]
     refine BF 11 (Zg c) ?_;try simp only[Act.put,Zq,Zp,Zo]
     refine wpAnyH_ready (rs:=[13]) Yr Yu ?_;refine(AllReadyH.cons (o:=⟨none,.store 69 (.tmp 5) (.tmp 21),0,BK,#[Dk 12,Dk 10,⟨8,.chain⟩,Co 0,Co 1,Co 2,Co 3,Co 4,Co 5,Co 6,Co 7,Co 8,Co 9,Co 10,{on:=11,ground:=.textOnly Departure.lateStores},Co 12],none⟩) rfl (fun K d=> ?_) AllReadyH.nil);have Z:Aa i B.heap.size BB:=Aa.below (v:=Ze) V z
     have va:AG i (w.heap.size+2) S U T P L Q M rs u:=E.mono Yv;have hE:Iq w To (Yy B.heap.size) (i.setCells B.heap.size 0 (Bn u S U T P L Q M).toArray.toList):=Iq.of F Z (J.o i j).2 va (fun H=>by have:=E.y _ H;omega) Yv (C.o i j);rw[if_pos Yp]
     refine wp_store_mid 69 _ _ rfl (B.heap.size) 0 (Bn u S U T P L Q M).toArray rfl rfl Z.there Yr (all_oneCell_toArray (Ju va)) ?_;refine d.out _ _ (j.trans ((AF _ _ _ _).below j.size Ym)) (fun G=> ?_);clear d K;try simp only[Act.put]
     refine BF 14 (Zg c) ?_;try simp only[Act.put,Zq,Zp,Zo]
     refine wpAnyH_done Yr ?_ _;go_wp2_with fail;go_meet;exact hE
   .go_simp;obtain⟨q,f⟩:=Af ((a.alloc (.cells Xp 69)).drew);have m:Below a.heap.size a q:=by rw[f];exact(Zy).drew
    have V:Aa q a.heap.size BB:=by rw[f];exact Aa.below (v:=Ze) (Aa.new a BB 69) Ad.drew
    have zP:=V.lt;try rw[<-f]
    clear f;refine d.out _ _ m (fun G=> ?_);clear d K;try simp only[Act.put,Zq,Zp,Zo]
    refine wpAnyH_ready (rs:=[7]) Yr Yu ?_;refine(AllReadyH.cons (o:=⟨some 19,.call {callee:=Callee.value (.func 103),args:= #[.tmp 17,.tmp 18],argTypes:= #[67,3]},67,BK,#[Dk 5,Dk 6],none⟩) rfl (fun K d=> ?_) AllReadyH.nil);go_simp;refine(HC.o r.o q (C.o q m)).mono ?_;rintro e B ⟨x,rfl,zH,N⟩;have A:Below a.heap.size a B:=m.trans (N.mono m.size);have z2:=N.size
    have y2:=A.size;try go_simp
    refine d.out _ _ A (fun G=> ?_);clear d K;try simp only[Act.put,Zq,Zp,Zo]
    refine wpAnyH_ready (rs:=[8]) Yr Yu ?_;refine(AllReadyH.cons (o:=⟨some 20,.call {callee:=Callee.value (.func 48),args:= #[.tmp 13,.tmp 15,.tmp 19],argTypes:= #[3,3,67]},97,BK,#[Dk 1,Dk 3,Dk 7,⟨7,.chain⟩],none⟩) rfl (fun K d=> ?_) AllReadyH.nil);go_simp;refine(HO.o r.o B x _ (C.o B A) zH).mono ?_;rintro e i ⟨c,u,S,U,T,P,L,Q,M,rs,F,rfl,E,z⟩
    have j:Below a.heap.size a i:=A.trans (z.mono A.size);have z3:=z.size;have y3:=j.size;try go_simp
    refine d.out _ _ j (fun G=> ?_);clear d K;try simp only[Act.put,Zq,Zp,Zo]
    refine BF 9 (.tuple #[.agg (Bn u S U T P L Q M).toArray,Zg c]) ?_;try simp only[Act.put,Zq,Zp,Zo]
    refine BF 10 (.agg (Bn u S U T P L Q M).toArray) ?_;try simp only[Act.put,Zq,Zp,Zo]
    refine BF 11 (Zg c) ?_;try simp only[Act.put,Zq,Zp,Zo]
    refine wpAnyH_ready (rs:=[13]) Yr Yu ?_;refine(AllReadyH.cons (o:=⟨none,.store 69 (.tmp 5) (.tmp 21),0,BK,#[Dk 12,Dk 10,⟨8,.chain⟩,Co 0,Co 1,Co 2,Co 3,Co 4,Co 5,Co 6,Co 7,Co 8,Co 9,Co 10,{on:=11,ground:=.textOnly Departure.lateStores},Co 12],none⟩) rfl (fun K d=> ?_) AllReadyH.nil);have Z:Aa i a.heap.size BB:=Aa.below (v:=Ze) (Aa.below (v:=Ze) V N) z
    have va:AG i (w.heap.size+2) S U T P L Q M rs u:=E.mono Yv;have hE:Iq w To (Yy a.heap.size) (i.setCells a.heap.size 0 (Bn u S U T P L Q M).toArray.toList):=Iq.of F Z (J.o i j).2 va (fun H=>by have:=E.y _ H;omega) Yv (C.o i j);rw[if_pos Yp]
    refine wp_store_mid 69 _ _ rfl (a.heap.size) 0 (Bn u S U T P L Q M).toArray rfl rfl Z.there Yr (all_oneCell_toArray (Ju va)) ?_;refine d.out _ _ (j.trans ((AF _ _ _ _).below j.size Ym)) (fun G=> ?_);clear d K;try simp only[Act.put]
    refine BF 14 (Zg c) ?_;try simp only[Act.put,Zq,Zp,Zo]
    refine wpAnyH_done Yr ?_ _;go_wp2_with fail;go_meet;exact hE
  case rest=>
   obtain⟨b,u,S,U,T,P,L,Q,M,rs,rfl,F,x6,zK,zG,zJ⟩:=hcut;obtain⟨W9,y⟩:=Af (wc.setCells (w.heap.size+1) 0 (Bn u S U T P L Q M).toArray.toList);have t9:Tn [(w.heap.size+1)] wc W9:=by rw[y];exact AF _ _ _ _
   have x9:Aa W9 (w.heap.size+1) (Bn u S U T P L Q M):=by rw[y];exact zK.ar _ rfl
   have zR:Hid (AG W9 w.heap.size S U T P L Q M rs u):=(zG.stays t9 (fun g hg H=>by have:=zG.y g H;simp at hg;omega)).mono Yv;have zS:Hid (Zz w W9):=zJ.trans (t9.below zJ.size Yu);have HT:Hid (To u):=F;obtain⟨I,O⟩:=Af (Bn u S U T P L Q M);have HL:Hid (I.length=17):=by show I.length=17;rw[O];rfl
   have zO:I.toArray.size=17:=by rw[O];rfl
   have HI:Hid (wc.there (w.heap.size+1) 0 I.toArray.size/\∀x∈I,x.oneCell'=true):=⟨by rw[zO];exact zK.there,by rw[O];exact Ju zG⟩;rw[<-O]at x6 x9 y;have HE:=Yw O;have zV:=Yw x6;have zX:=Yw x9;have zI:=Yw y;clear zO O x6 x9 y zG zK zJ t9 F;go_wp2_with (first
    |refine wpList_load_mid rfl 69 _ rfl b 0 rfl I _ (Aa.range zV.o) underlying69 rfl (by rw[HL.o];kernel_rfl) ?_
    |refine wpList_store_mid rfl 69 _ _ rfl (w.heap.size+1) 0 I.toArray rfl rfl HI.o.1 (by rw[List.size_toArray,HL.o];kernel_rfl) (all_oneCell_toArray HI.o.2) ?_)
   rw[<-zI.o];refine bodyPost_ret (AU results81 _ _ (w.heap.size+1) I _ rfl (Aa.range zX.o) underlying69 rfl (by rw[HL.o];kernel_rfl)) rfl ?_;exact⟨u,S,U,T,P,L,Q,M,rs,.inr ⟨r.o,HT.o⟩,by rw[HE.o],zR.o,zS.o⟩
section
theorem AI.sub{kz:List Kd}(h:AI wd now given births ks ps ls)(m:kz.Sublist ks)(K:∀k∈kz,∀r∈k.B,Ay kz r)(d:∀s∈Ba ps ls,Ay kz s):AI wd now given births kz ps ls:=by
 have z:=h.bt;have t:∀(i j:Nat) p k,i<j->kz[i]?=some p->kz[j]?=some k->less p.sum k.sum=true:=fun i j p k F f c=>by have x:(kz.map (·.sum)).Pairwise (fun a b=>less a b=true):=z.ct.sublist (m.map _);rw[List.pairwise_iff_getElem]at x;obtain⟨I,H⟩:=Zw f;obtain⟨J,q⟩:=Zw c;have:=x i j (by simpa using I) (by simpa using J) F;simpa [H,q]using this
 have o:∀k∈kz,∃i,ks[i]?=some k:=fun k c=>List.getElem?_of_mem (m.subset c);refine⟨h.bh,Zm m.length_le h.nth,h.np,h.nl,fun i k c=> ?_,fun i k c=> ?_,fun i k c r y=> ?_,fun i p f=> ?_,fun i l C=> ?_⟩
 .obtain⟨j,n⟩:=o k (Zs c);have:=h.th j k n;exact⟨this.ok,this.sum,fun A p e f=>t A i p k Yv f c⟩
 .obtain⟨j,n⟩:=o k (Zs c);have:=h.born j k n;refine⟨this.y,this.hi,fun A p G f e=> ?_⟩;have B:=t A i p k G f c;rw[Mu h (m.subset (Zs f)) (m.subset (Zs c)) e,BA]at B;cases B
 .obtain⟨j,n⟩:=o k (Zs c);obtain⟨v,L,e,g⟩:=h.ref j k n r y;obtain⟨u,E,q⟩:=K k (Zs c) r y;rw[CX z.nd L (m.subset E) (by rw[e,q])]at g;exact⟨u,E,q,g⟩
 .have:=h.cv i p f;exact⟨this.name,this.up,d _ (List.mem_append.2 (.inl (List.mem_map.2 ⟨p,Zs f,rfl⟩)))⟩
 .have:=h.bj i l C;exact⟨this.y,this.hi,this.up,d _ (List.mem_append.2 (.inr (List.mem_map.2 ⟨l,Zs C,rfl⟩))),this.gh,this.fy⟩
noncomputable def fuM (ks:List Kd) (ps:List Pd) (ls:List Ld):Nat:=(Br ps ls).length+potU ks []+ks.length+2
def DJ(ks:List Kd):Nat:=(ks.map (fun k=>k.B.length)).sum
theorem On(b:Zl):∀a:Zl,(b.foldl Av a).length<=a.length+b.length:=by
 induction b with
 |nil=>intro a;simp
 |cons x b ih=>
  intro a;have c:=ih (Av a x);have d:(Av a x).length<=a.length+1:=by unfold Av;split<;>simp
  simp only[List.foldl_cons,List.length_cons];omega
theorem SD(ks:List Kd)(ps:List Pd)(ls:List Ld):fuM ks ps ls<=ps.length+ls.length+DJ ks+ks.length+2:=by
 have a:=On (ls.map (·.sum)) ((ps.map (·.sum)).foldl Av []);have b:=On (ps.map (·.sum)) [];have c:potU ks []=DJ ks:=by unfold potU DJ;congr 1;simp
 unfold fuM Br;simp at a b;omega
theorem LH(h:∀k∈ks,k.B.length<=30):DJ ks<=30 *ks.length:=by
 induction ks with
 |nil=>simp[DJ]
 |cons k ks ih=>have a:=ih (fun x b=>h x (List.mem_cons_of_mem _ b));have c:=h k Yu;unfold DJ at a |-;simp;omega
structure Hq (wd now given births:Int) (ks:List Kd) (ps:List Pd) (ls:List Ld) (kz:List Kd) (ph top at_ ro:Int) (qs ms D:Zl) (last:Int) (M:Nat):Prop where
 R:FuS ks ps ls births kz ph top at_ ro qs ms D M
 pos:0<M
 al:at_<=last
 l0:ph=0->last=births+1
 mx:M<=fuM ks ps ls
variable {wd now given births:Int} {ks kz:List Kd} {ps:List Pd} {ls:List Ld} {ph top at_ ro last:Int} {qs ms D:Zl} {M:Nat}
theorem Hq.ok(c:AI wd now given births ks ps ls)(h:Hq wd now given births ks ps ls kz ph top at_ ro qs ms D last M):((AI wd now given births kz ps ls/\AK wd births ph top at_ ro qs ms)/\ro≠1000000000)/\kz.Sublist ks:=by
 have j:=(DC c).live;have z:=c.bt;have g:∀s,Reach ks (Ba ps ls) s->(s.size:Int)=wd:=fun s a=>FV z (j s a);have E:=h.mx;have A:=h.pos;have m:=c.bh.ak;have F:=SD ks ps ls;have G:=LH (ks:=ks) (fun k l=>by obtain⟨i,v⟩:=List.getElem?_of_mem l;exact(AV (c.th i k v).ok).B);have x:=c.nth;have I:=c.np;have H:=c.nl;have t:∀ms:Zl,ms.Nodup->(∀s∈ms,Reach ks (Ba ps ls) s)->ms.length<=600:=fun ms y b=>by have:=Da y (u:=ks.map (·.sum)) (fun s a=>by obtain⟨u,f,rfl⟩:=j s (b s a);exact List.mem_map.2 ⟨u,f,rfl⟩);simp at this;omega
 have B:=h.R;cases B with
 |start=>exact⟨⟨⟨c,Yv,Yv,⟨Yu,Yu,Yu,Yu,Yu⟩,.inl ⟨rfl,rfl,rfl,rfl,rfl⟩⟩,Yv⟩,List.Sublist.refl _⟩
 |mark qs ms b=>exact⟨⟨⟨c,Yv,Yv,⟨Yv,t ms b.nd b.live,fun s a=>g s (b.q s a),fun s a=>g s (b.live s a),b.nd⟩,.inr (.inl ⟨rfl,m,Int.le_refl _,rfl⟩)⟩,Yv⟩,List.Sublist.refl _⟩
 |sweep kz at_ ms D b x hat a=>
  have q:∀s,Reach ks (Ba ps ls) s->Ay kz s:=fun s d=>by obtain⟨u,f,rfl⟩:=j s d;exact⟨u,a.kept u f ((b _).2 d),rfl⟩
  refine⟨⟨⟨c.sub a.sub (fun k l r d=> ?_) (fun s a=>q s (.here a)),Yv,Yv,⟨Yu,t ms x (fun s a=>(b s).1 a),Yu,fun s a=>g s ((b s).1 a),x⟩,.inr (.inr ⟨rfl,m,Int.le_refl _,hat.1,hat.2⟩)⟩,Yv⟩,a.sub⟩;have n:=a.sub.subset l;rcases Int.lt_or_le k.born at_ with o|o
  .obtain⟨i,v⟩:=List.getElem?_of_mem n;obtain⟨u,f,e,C⟩:=c.ref i k v r d;exact⟨u,a.low u f Yv,e⟩
  .exact q r (.step ((b _).1 (a.fw k l o)) n rfl d)
 |stop=>omega
theorem Hq.dl(h:Hq wd now given births ks ps ls kz ph top at_ ro qs ms D last M):D.length<=ks.length:=by
 have a:=h.R;cases a with
 |start=>exact Nat.zero_le _
 |mark=>exact Nat.zero_le _
 |sweep _ _ _ _ _ _ _ hs=>have:=hs.len;omega
 |stop _ _ _ _ _ hl=>omega
theorem UTo.at(h:UTo kz ps ls births ph top at_ ro qs ms r)(a:r.H≠0):r.M<=at_\/(ph=0/\r.M=births+1):=by
 cases h with
 |begin h=>exact .inr ⟨h,rfl⟩
 |mark=>exact .inl (Int.le_refl _)
 |rest=>exact absurd rfl a
 |ah _ _ u hu=>exact .inl (by have:=hu.2.1;show u.born<=at_;omega)
 |drop _ _ u hu=>exact .inl (by have:=hu.2.1;show u.born<=at_;omega)
theorem TW(h:AI wd now given births ks ps ls):(liveA wd now given births ks ps ls).Nodup:=by unfold liveA;rw[if_pos h];unfold liveL;exact(GO _).imp (fun a e=>by rw[e,BA]at a;cases a)
theorem Hq.step(b:AI wd now given births ks ps ls)(h:Hq wd now given births ks ps ls kz ph top at_ ro qs ms D last M)(f:UTo kz ps ls births ph top at_ ro qs ms r):
 ∃a:Int,(r.S=[]/\a=last\/∃u∈kz,r.S=[u.sum]/\a=u.born/\1<=u.born/\u.born<last)/\(r.H=2->ph=1->r.ms.length=(liveA wd now given births ks ps ls).length/\∀s∈liveA wd now given births ks ps ls,s∈r.ms)/\
  (r.H=0->r.ro=1/\(D++r.S).length=(wasteA wd now given births ks ps ls).length/\(∀s∈wasteA wd now given births ks ps ls,s∈D++r.S)/\r.ks.length=(liveA wd now given births ks ps ls).length)/\
  (r.H≠0->∃q,q+1<=M/\Hq wd now given births ks ps ls r.ks r.H r.O r.M r.ro r.D r.ms (D++r.S) a q):=by
 obtain⟨⟨q,I,C⟩,F,Q⟩:=h.R.step b (fun x R y S e=>Mu b R S e) h.pos f;have v:=(h.ok b).2;have N:=h.mx;have A:=TW b;have J:=f.at;have Y:=h.al;obtain⟨a,z⟩:∃a:Int,(r.S=[]/\a=last\/∃u∈kz,r.S=[u.sum]/\a=u.born/\u.born<at_/\r.M=u.born):=by
  rcases F with F|⟨u,f,d,l,o⟩
  .exact⟨last,.inl ⟨F,rfl⟩⟩
  .exact⟨u.born,.inr ⟨u,f,d,rfl,l,o⟩⟩
 have L:∀u∈kz,1<=u.born:=fun u f=>by obtain⟨i,P⟩:=List.getElem?_of_mem (v.subset f);exact(b.born i u P).y
 refine⟨a,z.imp id (fun⟨u,f,d,l,o,G⟩=>⟨u,f,d,l,L u f,Yv⟩),fun l d=> ?_,fun m=> ?_,fun m=> ?_⟩
 .obtain⟨o,G⟩:=Q l d;have j:∀s,s∈r.ms↔s∈liveA wd now given births ks ps ls:=fun s=>(G s).trans (FB b).symm;exact⟨Nat.le_antisymm (Da o fun s k=>(j s).1 k) (Da A fun s k=>(j s).2 k),fun s k=>(j s).2 k⟩
 .obtain⟨t,V,X,O,U,W,T,B⟩:=r;dsimp only at *
  generalize D++B=E at *
  cases C with
  |start=>unfold fuM at N;omega
  |mark=>cases m
  |sweep=>cases m
  |stop _ _ hk k hd' hl=>
   have Z:=Ss b;have K:t.length=(liveA wd now given births ks ps ls).length:=by
    have d:(t.map (·.sum)).length=t.length:=List.length_map _;rw[<-d];refine Nat.le_antisymm (Da ((k.map _).nodup b.bt.nd) fun s g=> ?_) (Da A fun s g=> ?_)
    .obtain⟨u,c,rfl⟩:=List.mem_map.1 g;exact(FB b).2 ((hk u (k.subset c)).1 c)
    .have H:=(FB b).1 g;obtain⟨u,c,rfl⟩:=(DC b).live s H;exact List.mem_map.2 ⟨u,(hk u c).2 H,rfl⟩
   refine⟨rfl,Yv,fun s g=> ?_,K⟩;have n:=g;unfold wasteA at n;rw[if_pos b]at n;unfold wasteK at n;obtain⟨u,c,rfl⟩:=List.mem_map.1 n;exact hd' u (List.mem_filter.1 c).1 ((QR b (List.mem_filter.1 c).1).1 g)
 .refine⟨q,I,C,?_,?_,fun e=>absurd e m,Yv⟩
  .obtain⟨t,V,X,O,U,W,T,B⟩:=r;dsimp only at *
   generalize D++B=E at *
   cases C with
   |start=>omega
   |mark=>omega
   |sweep=>omega
   |stop=>exact absurd rfl m
  .rcases z with⟨e,rfl⟩|⟨u,_,e,rfl,l,o⟩
   .rcases J m with d|⟨d,l⟩
    .omega
    .have:=h.l0 d;omega
   .omega
theorem Hq.start(a:AI wd now given births ks ps ls):Hq wd now given births ks ps ls ks 0 0 0 0 [] [] [] (births+1) (fuM ks ps ls):=
 ⟨.start,by unfold fuM;omega,by have:=a.bh.ak;omega,fun _=>rfl,Zx⟩
end
theorem SE(wd now given births:Int)(a s o:Zk)(v pn t r q:Nat)(ks:List Kd)(u:Kd)(w:Zh)(B:AQ w w.heap.size a ks)(Q:ks.length<=600)(n:u∈ks)(d:(ks.map (·.sum)).Nodup):
 Calls prog 10 #[.agg (Yg wd now given births a ks.length v s pn t o r q),.string u.sum] w fun e H=>e=.returned (Zg u.born)/\Zz w H:=by
 obtain⟨W,m⟩:=Af (w.alloc (.cells (Yg wd now given births a ks.length v s pn t o r q) 27));obtain⟨b,I,z⟩:=AL (l:=(Yh wd now given births a ks.length v s pn t o r q)) m;obtain⟨i,A⟩:=List.getElem?_of_mem n;have F:Hid (AQ W W.heap.size a ks):=AQ.mono (AQ.below B b) b.size;have HU:Hid (u∈ks/\(ks.map (·.sum)).Nodup):=⟨n,d⟩;obtain⟨S,_⟩:=z 4 _ rfl;have x:=Yw m;have E:Hid (Zz w W):=b
 clear B m b I z n d;go_enter func10,ntmps10;go_upto_region 1 with fail;rw[<-x.o];clear x;go_wp2
 go_loopw [5] (fun j wr=>∃k:Nat,k<=i/\j=Zg k/\wr=W) (fun j _=>ks.length -(intOf j).toNat)
 case atStart=>exact⟨0,Nat.zero_le _,rfl,rfl⟩
 case round=>
  obtain⟨k,P,rfl,rfl⟩:=hrel;have J:=(Zw A).1;have c:k<ks.length:=Yv
  obtain⟨R,ro,G,L,f⟩:=F.o.at c;subst G;have g:Hid (ks[k]?=some ks[k]):=Zv c;obtain⟨N,O,_⟩:=f k _ g.o;clear f;generalize ks[k]=y at *
  by_cases hxy:y.sum=u.sum
  .obtain rfl:y=u:=CX HU.o.2 (Zs g.o) HU.o.1 hxy;have C:(y.sum.toList==y.sum.toList)=true:=Yu
   go_wp2;go_ret;exact⟨rfl,E.o⟩
  .have C:=Bu hxy;have K:k≠i:=fun e=>by have h:=g.o;rw[e,A]at h;exact hxy (by rw[Option.some.inj h])
   go_wp2;exact⟨⟨k+1,Yv,Yn,trivial⟩,Ys⟩
theorem SF{k:Nat}{x:Kd}(a:ks[k]?=some x):DJ (ks.take (k+1))=DJ (ks.take k)+x.B.length:=by obtain⟨h,e⟩:=Zw a;rw[Zu h,e];unfold DJ;simp
theorem SG(h:∀k∈ks,k.B.length<=30)(c:ks.length<=600)(k:Nat):DJ (ks.take k)<=18000:=by have a:=LH (ks:=ks.take k) (fun x b=>h x (List.mem_of_mem_take b));rw[List.length_take]at a;omega
theorem QY(wd now given births:Int)(b o m:Zk)(r pn q a n:Nat)(ks:List Kd)(w:Zh)(z:AQ w w.heap.size b ks)(G:ks.length<=600)(Q:pn<=100)(K:a<=200)(f:∀k∈ks,k.B.length<=30):
 Calls prog 9 #[.agg (Yg wd now given births b ks.length r o pn q m a n)] w fun e I=>e=.returned (Zg (3 *((ks.length+pn+a+DJ ks:Nat):Int)+3))/\Zz w I:=by
 obtain⟨W,h⟩:=Af (w.alloc (.cells (Yg wd now given births b ks.length r o pn q m a n) 27));obtain⟨d,J,v⟩:=AL (l:=(Yh wd now given births b ks.length r o pn q m a n)) h;have E:Hid (AQ W W.heap.size b ks):=AQ.mono (AQ.below z d) d.size;have t:Hid (∀k,DJ (ks.take k)<=18000):=SG f G;obtain⟨V,X,Y,Z,x4,x5,x6⟩:=Aa.c7 v 0 1 2 3 4 5 6;have u:=Yw h;have B:Hid (Zz w W):=d;clear z h d J v f
 go_enter func9,ntmps9;go_upto_region 1 with fail;rw[<-u.o];clear u;go_wp2
 go_loopw [3,4] (fun H j wr=>∃k:Nat,k<=ks.length/\H=Zg ((ks.length+pn+a+DJ (ks.take k):Nat):Int)/\j=Zg k/\wr=W) (fun _ j _=>ks.length -(intOf j).toNat)
 case atStart=>exact⟨0,Nat.zero_le _,by simp[DJ],rfl,rfl⟩
 case round=>
  obtain⟨k,P,rfl,rfl,rfl⟩:=hrel;have x:=t.o k;by_cases hlt:k<ks.length
  .obtain⟨T,ro,F,L,g⟩:=E.o.at hlt;subst F;have s:Hid (ks[k]?=some ks[k]):=Zv hlt;obtain⟨N,O,c2,S,U,c3,_⟩:=g k _ s.o;have A:=t.o (k+1);have i:=SF s.o;have HS:=Yw i;rw[i]at A;clear g i;generalize ks[k]=y at *
   generalize DJ (ks.take k)=R at *
   go_wp2;refine⟨⟨k+1,Yv,?_,Yn,trivial⟩,Ys⟩;rw[HS.o]
   first|rfl|go_num|(congr 1;omega)
  .obtain rfl:k=ks.length:=Yv
   rw[List.take_length]at x |-;obtain⟨R,c⟩:=Af (DJ ks);rw[<-c]at x |-;have C:=Yw c;clear c;go_wp2;go_ret;exact⟨by rw[<-C.o];go_num,B.o⟩
structure Jh (q g0:Nat) (W X:Zh):Prop where
 be:Below q W X
 pb:∀b,b<g0->b≠q+1->X.heap[b]?=W.heap[b]?
 gl:g0<=W.heap.size
theorem Jh.J{a:Nat}{V:List Nat}(h:Jh q a W X)(i:Tn V X Y)(f:∀b∈V,b=q+1\/a<=b)(k:q<a):Jh q a W Y:=by
 have l:=h.be.size;have j:=h.gl;refine⟨h.be.trans (i.below Yv (fun b c=>by rcases f b c with h|h<;>omega)),fun b c g=>(i.block b Yv (fun e=> ?_)).trans (h.pb b c g),j⟩;rcases f b e with d|d
 .exact g d
 .omega
theorem Jh.below{a:Nat}(h:Jh q a W X)(b:Zz X Y)(c:q<a):Jh q a W Y:=h.J (V:=[]) (Tn.of b) Yu c
def Oo(n m:Nat)(X:Zh)(ta pa la qa ma:Zk)(ks:List Kd)(ps:List Pd)(ls:List Ld)(qs ms:Zl):Prop:=
 ∀V Y,(∀b∈V,n<=b/\b<m)->Tn V X Y->AW Y Y.heap.size ta pa la ks ps ls/\Ab Y Y.heap.size qa qs/\Ab Y Y.heap.size ma ms
theorem Oo.get{e c a d b:Zk}(h:Oo n m X e c a d b ks ps ls qs ms)(f:Zz X Y):AW Y Y.heap.size e c a ks ps ls/\Ab Y Y.heap.size d qs/\Ab Y Y.heap.size b ms:=h [] Y Yu (Tn.of f)
theorem Oo.ans{d:Nat}{Z:Zh}{u s q t r:Zk}{J G E H F:Nat}{D:Value}{I:Zj}{x:Zl}(h:Kq X d (.slice u ks.length J) (.slice s ps.length G) (.slice q ls.length E) (.slice t qs.length H) (.slice r ms.length F) D I ks ps ls qs ms x){i:List Nat}(C:Tn i X Z)(v:∀b∈i,b<d)(N:m<=d):Oo n m Z u s q t r ks ps ls qs ms:=fun V Y y z=>by
 have l:Tn (i++V) X Y:=(C.mono (fun b f=>List.mem_append.2 (.inl f))).trans (z.mono (fun b f=>List.mem_append.2 (.inr f)));have j:∀b∈i++V,b<d:=fun b f=>by
  rcases List.mem_append.1 f with h|h
  .exact v b h
  .have:=(y b h).2;omega
 have k:∀{a:Zk} {c:Nat} {ss:Zl},Ah X d (.slice a ss.length c) ss->Ab Y Y.heap.size a ss:=fun o=>by obtain⟨K,L,e,B⟩:=(o.J l (fun g A e=>by have:=(o.V A).1;have:=j g e;omega)).row;cases e;exact B
 exact⟨h.R.jj _ Y j l,k h.q,k h.mr⟩
theorem WX(X:Zh)(a:Nat)(l:Value)(D d:Zl)(n:Zk)(o:Nat)(h:Ah X a l D)(A:d.length<=1)(E:Ab X X.heap.size n d)(K:D.length<=600)(y:a<=X.heap.size):
 ∃f c Y,(Builtin.append_ #[29,29] 29 #[l,.slice n d.length o]).run prog X=.ok (.slice f (D++d).length c) Y/\Ah Y a (.slice f (D++d).length c) (D++d)/\Tn (Aj l).toList X Y/\∀g,Aj (.slice f (D++d).length c)=some g->Aj l=some g\/X.heap.size<=g:=by
 match d,A with
 |[],_=>
  obtain⟨i,B,H,I,J⟩:=info_parts BO;obtain⟨f,c,rfl,_⟩:=h.row;have v:D.length<=c:=by
   rcases h with⟨e,x⟩|⟨_,_,_,e,_,_,m,_⟩
   .rw[x];simp
   .cases e;exact m
  have F:Src prog i.size 29 (.slice n 0 o) 0 [] X:=by
   cases n with
   |none=>exact⟨.inl ⟨_,underlying29⟩,fun _=>rfl,rfl,rfl,Yu,Yu⟩
   |some p=>exact Src.ofSlice X underlying29 p 0 o [] Yu (fun j u G=>by simp at G) Yu
  refine⟨f,c,X,?_,?_,Tn.of Ad,fun g q=> ?_⟩
  .rw[List.append_nil];exact run_append_nothing X _ _ _ _ i underlying29 B f D.length c v _ F
  .rw[List.append_nil];exact h
  .rw[List.append_nil]at q;exact .inl q
 |[s],_=>
  obtain⟨b,off,rfl,_,z⟩:=E.at (k:=0) Yu;obtain⟨L,Y,r,t,q,C⟩:=Ek X a l D h ⟨b,off,none⟩ o s (z 0 s rfl) Yv y 29;obtain⟨f,c,rfl,_⟩:=t.row;refine⟨f,c,Y,r,t,EC q,fun g e=> ?_⟩;rcases C with m|m
  .rw[m]at e;exact .inl e
  .rw[m]at e;cases e;exact .inr (Zx)
end Go.Proofs.YtcfjcdpkpiidkaaGreat
