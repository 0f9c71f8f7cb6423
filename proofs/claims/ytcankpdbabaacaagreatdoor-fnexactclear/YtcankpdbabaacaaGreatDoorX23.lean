import Derived.Test.YtcankpdbabaacaaGreatDoorX22
import Derived.RangeFuncNested
import Derived.Shelf.Abstract
import Derived.Shelf.RegionOpen
import Derived.RangeFuncBound
import Derived.RangeFuncCalls
import Derived.RangeFuncLeaves
import Derived.OwnWalkIn
import Derived.TacticsInMore
import Derived.LoopNIn
import Derived.LoopIn
set_option maxRecDepth 100000
set_option maxHeartbeats 16000000
namespace Go.Proofs.YtcankpdbabaacaaGreatDoor
open Go.ChangeShapes Go.WideShapes Go.ChangeAt Go.RowKit _root_.Go.Proofs.Tryz
variable{w a e X W wr:Zh}{b base N n B k B':Nat}{S U T P L Q M s t r:Value}{c f:Zj}{v u:Vd}{d:Int}
def CC(S U T P L Q M:Value)(rs:Zj):List Nat:=((Af S).toList++(Af U).toList)++(Bj T P L rs++((Af Q).toList++(Af M).toList))
structure AU (w:Zh) (base:Nat) (S U T P L Q M:Value) (rs:Zj) (v:Vd):Prop where
 s:Aj w base S v.ss
 u:Aj w base U v.C
 st:Bf w base T P L rs v.A v.ps v.ls
 q:Aj w base Q v.D
 m:Aj w base M v.ms
 nd:(CC S U T P L Q M rs).Nodup
theorem AU.lo(h:AU w b S U T P L Q M c v):∀g∈CC S U T P L Q M c,b<=g:=by
 intro g a;unfold CC at a;simp only[List.mem_append,Option.mem_toList]at a;rcases a with(a|a)|a|a|a
 .exact(h.s.S a).1
 .exact(h.u.S a).1
 .exact h.st.lo g a
 .exact(h.q.S a).1
 .exact(h.m.S a).1
theorem AU.cf(h:AU w b S U T P L Q M c v):∀g∈CC S U T P L Q M c,g<w.heap.size:=by
 intro g a;unfold CC at a;simp only[List.mem_append,Option.mem_toList]at a;rcases a with(a|a)|a|a|a
 .exact(h.s.S a).2
 .exact(h.u.S a).2
 .exact h.st.cf g a
 .exact(h.q.S a).2
 .exact(h.m.S a).2
theorem AU.stays{j:Zh}{c:Nat}(h:AU w c S U T P L Q M f v){V:List Nat}(d:Tn V w j)(k:∀b∈V,b∉CC S U T P L Q M f):AU j c S U T P L Q M f v:=by have e:∀b∈CC S U T P L Q M f,b∉V:=fun b i l=>k b l i;unfold CC at e;simp only[List.mem_append,Option.mem_toList]at e;exact⟨h.s.Y d (fun g a=>e g (.inl (.inl a))),h.u.Y d (fun g a=>e g (.inl (.inr a))),h.st.apart d (fun b i m=>e b (.inr (.inl m)) i),h.q.Y d (fun g a=>e g (.inr (.inr (.inl a)))),h.m.Y d (fun g a=>e g (.inr (.inr (.inr a)))),h.nd⟩
theorem AU.below{b:Zh}{a:Zj}(h:AU w base S U T P L Q M a v)(c:Zz w b):AU b base S U T P L Q M a v:=
 h.stays (V:=[]) (Tn.of c) Yv
theorem AU.mono{a:Nat}(h:AU w base S U T P L Q M c v)(b:a<=base):AU w a S U T P L Q M c v:=
 ⟨h.s.mono b,h.u.mono b,h.st.mono b,h.q.mono b,h.m.mono b,h.nd⟩
theorem AU.same(h:AU w base S U T P L Q M f v)(d:w.heap.size<=e.heap.size)(c:∀b,base<=b->b<w.heap.size->e.heap[b]?=w.heap[b]?):AU e base S U T P L Q M f v:=
 ⟨h.s.stays d (fun g a=>c g (h.s.S a).1 (h.s.S a).2),h.u.stays d (fun g a=>c g (h.u.S a).1 (h.u.S a).2),h.st.same c,h.q.stays d (fun g a=>c g (h.q.S a).1 (h.q.S a).2),h.m.stays d (fun g a=>c g (h.m.S a).1 (h.m.S a).2),h.nd⟩
theorem AU.of{c n1 n2:Nat}{i:Zj}(y:Aj w c S v.ss)(hu:Aj w c U v.C)(n:∀g,Af S=some g->Af U≠some g)(p:∀g,Af S=some g\/Af U=some g->g<n1)(h:Bf w n1 T P L i v.A v.ps v.ls)(d:c<=n1)(r:∀g∈Bj T P L i,g<n2)(x:Aj w c Q v.D)(t:Aj w c M v.ms)(j:∀g,Af Q=some g\/Af M=some g->n2<=g)(A:n1<=n2)(l:∀g,Af Q=some g->Af M≠some g):AU w c S U T P L Q M i v:=by
 refine⟨y,hu,h.mono d,x,t,?_⟩;have k:=h.nd;rw[FA]at k;have dj:=h.lo;unfold CC;generalize Bj T P L i=B at *
 generalize Af S=s at *
 generalize Af U=u at *
 generalize Af Q=q at *
 generalize Af M=m at *
 have one:∀o:Option Nat,o.toList.Nodup:=fun o=>by cases o<;>simp
 simp only[List.nodup_append,List.mem_append,Option.mem_toList];refine⟨⟨one _,one _,fun a f b d e=>n a f (e▸d)⟩,⟨k,⟨one _,one _,fun a f b d e=>l a f (e▸d)⟩,fun a f b d e=> ?_⟩,fun a f b d e=> ?_⟩
 .have z:=r a f;have C:=j b d;omega
 .have z:=p a f;rcases d with d|d
  .have:=dj b d;omega
  .have:=j b d;omega
def EV(k:Nat)(v:Vd):Vd:=
 {v with
  ss:=marks k v.ss.length
  C:=marks (k+v.ss.length) v.C.length
  A:=Cj (k+v.ss.length+v.C.length) v.A
  ps:=Ei (k+v.ss.length+v.C.length+v.A.length *3+AF v.A) v.ps
  ls:=Ej (k+v.ss.length+v.C.length+v.A.length *3+AF v.A+v.ps.length *2) v.ls
  D:=marks (k+v.ss.length+v.C.length+CN v.A v.ps v.ls) v.D.length
  ms:=marks (k+v.ss.length+v.C.length+CN v.A v.ps v.ls+v.D.length) v.ms.length}
def Ct(v:Vd):Nat:=v.ss.length+v.C.length+CN v.A v.ps v.ls+v.D.length+v.ms.length
theorem Wu(a k:Nat)(S U:Value)(c d:Zl)(w:Zh)(s:Aj w a S c)(t:Aj w a U d)(x:∀g,Af S=some g->Af U≠some g)(O:1<=k)(R:k+c.length+d.length<=100000000):
 Calls prog 30 #[.agg #[S,U],Zg k] w fun e C=>e=.returned (Zg (k+c.length+d.length:Nat))/\Aj C a S (marks k c.length)/\Aj C a U (marks (k+c.length) d.length)/\Tn ((Af S).toList++(Af U).toList) w C:=by
 obtain⟨l,m,rfl,_⟩:=s.row;obtain⟨i,j,rfl,_⟩:=t.row;obtain⟨W,q⟩:∃W,W=w.alloc (.cells #[.slice l c.length m,.slice i d.length j] 35):=⟨_,rfl⟩;have u:=(AA q).1;have G:=(AA q).2.2;have F:Hid (Aa W _ _):=(AA q).2.2;obtain⟨Q,_⟩:=G 0 _ rfl;have B:Hid (Aj W a (.slice l c.length m) c/\Aj W a (.slice i d.length j) d):=⟨s.below u,t.below u⟩
 have K:Hid ((∀g,Af (.slice l c.length m)=some g->g<w.heap.size)/\(∀g,Af (.slice i d.length j)=some g->g<w.heap.size)):=⟨fun g f=>(s.S f).2,fun g f=>(t.S f).2⟩;have HN:=Yx x;have E:=Yx q;have M:Hid (Zz w W):=u;clear s t x q G u;go_enter func30,ntmps30;go_upto_region 1 with fail;rw[<-E.o];clear E;go_wp2_with fail;refine(GA a k _ c W B.o.1 O Yw).mono ?_;rintro e p ⟨rfl,y,n⟩
 have L:w.heap.size<W.heap.size:=Aa.lt F.o;have A:Aa p w.heap.size [.slice l c.length m,.slice i d.length j]:=Aa.same F.o (n.block _ L (fun e=>by have:=K.o.1 _ e.symm;omega));have v:Aj p a (.slice i d.length j) d:=B.o.2.stays n.size (fun g f=>n.block g (B.o.2.S f).2 (fun e=>HN.o g e.symm f));obtain⟨P,_⟩:=A 1 _ rfl;have H:Hid (Aj p a (.slice i d.length j) d):=v;have r:=Yx (Zb y n);clear Q A v y n
 go_wp2_with fail;refine(GA a (k+c.length) _ d p H.o Yw Yw).mono ?_;rintro e D ⟨rfl,z,o⟩;have J:Hid (Aj D a (.slice l c.length m) (marks k c.length)):=r.o.1.stays o.size (fun g f=>o.block g (r.o.1.S f).2 (fun e=>HN.o g f e.symm))
 have N:Hid (Tn ((Af (.slice l c.length m)).toList++(Af (.slice i d.length j)).toList) w D):=((Tn.of M.o).trans ((BV r.o.2).mono (by simp;exact fun b h=> .inl h))).trans ((BV o).mono (by simp;exact fun b h=> .inr h));have I:=Yx z;clear P z o;go_wp2;go_ret;exact⟨rfl,J.o,I.o,N.o⟩
theorem vnd(h:(CC S U T P L Q M c).Nodup):
 (∀g,Af S=some g->Af U≠some g/\g∉Bj T P L c/\Af Q≠some g/\Af M≠some g)/\(∀g,Af U=some g->g∉Bj T P L c/\Af Q≠some g/\Af M≠some g)/\(∀g∈Bj T P L c,Af Q≠some g/\Af M≠some g)/\(∀g,Af Q=some g->Af M≠some g):=by
 unfold CC at h;generalize Bj T P L c=B at *
 generalize Af S=s at *
 generalize Af U=u at *
 generalize Af Q=q at *
 generalize Af M=m at *
 simp only[List.nodup_append,List.mem_append,Option.mem_toList]at h;obtain⟨⟨_,_,f⟩,⟨_,⟨_,_,i⟩,d⟩,b⟩:=h
 refine⟨fun g a=>⟨fun e=>f g a g e rfl,fun e=>b g (.inl a) g (.inl e) rfl,fun e=>b g (.inl a) g (.inr (.inl e)) rfl,fun e=>b g (.inl a) g (.inr (.inr e)) rfl⟩,fun g a=>⟨fun e=>b g (.inr a) g (.inl e) rfl,fun e=>b g (.inr a) g (.inr (.inl e)) rfl,fun e=>b g (.inr a) g (.inr (.inr e)) rfl⟩,fun g a=>⟨fun e=>d g a g (.inl e) rfl,fun e=>d g a g (.inr e) rfl⟩,fun g a e=>i g a g e rfl⟩
theorem Jh(v:Vd)(d k:Nat)(S U T P L Q M:Value)(x:Zj)(w:Zh)(h:AU w d S U T P L Q M x v)(hk:1<=k)(H:k+Ct v<=100000000):
 Calls prog 10 #[.agg #[Zg v.wd,Zg v.U,S,U,Zg v.T,Zg v.F,Zg v.G,Zg v.E,T,P,L,Zg v.H,Q,M,Zg v.K,Zg v.J,Zg v.ro],Zg k] w fun e w'=>e=.returned (Zg (k+Ct v:Nat))/\AU w' d S U T P L Q M x (EV k v)/\Tn (CC S U T P L Q M x) w w':=by
 obtain⟨f,i,rfl,_⟩:=h.s.row;obtain⟨j,l,rfl,_⟩:=h.u.row;obtain⟨y,z,rfl⟩:=As h.st.aj;obtain⟨r,s,rfl⟩:=As h.st.pins;obtain⟨n,o,rfl⟩:=As h.st.aq;obtain⟨t,u,rfl,_⟩:=h.q.row;obtain⟨p,q,rfl,_⟩:=h.m.row;obtain⟨W,I⟩:∃W,W=w.alloc (.cells (Xr v f i j l y z r s n o t u p q) 43):=⟨_,rfl⟩;have a:=(AA I).1;have hz:=(AA I).2.2;have HZ:Hid (Aa W _ _):=(AA I).2.2
 have G:Hid (AU W d (.slice f v.ss.length i) (.slice j v.C.length l) (.slice y v.A.length z) (.slice r v.ps.length s) (.slice n v.ls.length o) (.slice t v.D.length u) (.slice p v.ms.length q) x v):=h.below a
 have J:Hid (∀g∈CC (.slice f v.ss.length i) (.slice j v.C.length l) (.slice y v.A.length z) (.slice r v.ps.length s) (.slice n v.ls.length o) (.slice t v.D.length u) (.slice p v.ms.length q) x,g<w.heap.size):=h.cf;have HN:=Yx (vnd h.nd)
 have zT:Hid ((CC (.slice f v.ss.length i) (.slice j v.C.length l) (.slice y v.A.length z) (.slice r v.ps.length s) (.slice n v.ls.length o) (.slice t v.D.length u) (.slice p v.ms.length q) x).Nodup):=h.nd;have zR:w.heap.size<W.heap.size:=Aa.lt hz;obtain⟨c2,c3⟩:=Aa.c2 hz 2 3;have HW:=Yx I;have HB:Hid (Zz w W):=a;have zZ:k+v.ss.length+v.C.length<=100000000:=by unfold Ct at H;omega
 have yA:k+v.ss.length+v.C.length+CN v.A v.ps v.ls<=100000000:=by unfold Ct at H;omega
 have yB:k+v.ss.length+v.C.length+CN v.A v.ps v.ls+v.D.length+v.ms.length<=100000000:=by unfold Ct at H;omega
 have zS:Hid (k+Ct v=k+v.ss.length+v.C.length+CN v.A v.ps v.ls+v.D.length+v.ms.length):=by show k+Ct v=_;unfold Ct;omega
 rw[zS.o];clear h I hz a H;go_enter func10,ntmps10;go_upto_region 1 with fail;rw[<-HW.o];clear HW;go_wp2_with fail;refine(Wu d k _ _ v.ss v.C W G.o.s G.o.u (fun g c=>(HN.o.1 g c).1) hk zZ).mono ?_;rintro e O ⟨rfl,zJ,zN,A⟩;have n1:∀b∈(Af (.slice f v.ss.length i)).toList++(Af (.slice j v.C.length l)).toList,b<w.heap.size:=fun b a=>J.o b (by unfold CC;exact List.mem_append.2 (.inl a))
 have z1:Aa O w.heap.size (Xq v f i j l y z r s n o t u p q):=Aa.same HZ.o (A.block _ zR (fun e=>by have:=n1 _ e;omega));have K:∀b∈(Af (.slice f v.ss.length i)).toList++(Af (.slice j v.C.length l)).toList,b∉Bj (.slice y v.A.length z) (.slice r v.ps.length s) (.slice n v.ls.length o) x/\Af (.slice t v.D.length u)≠some b/\Af (.slice p v.ms.length q)≠some b:=by
  intro b a;simp only[List.mem_append,Option.mem_toList]at a;rcases a with a|a
  .exact(HN.o.1 b a).2
  .exact HN.o.2.1 b a
 have X:=G.o.st.apart A (fun b a=>(K b a).1);have zG:=G.o.q.Y A (fun g c e=>(K g e).2.1 c);have zC:=G.o.m.Y A (fun g c e=>(K g e).2.2 c);have C:=Yx (Zn zJ (Zn zN (Zn X (Zn zG (Zn zC ((Tn.of HB.o).trans A))))));have E:w.heap.size<O.heap.size:=Zr zR A.size;have V:=Yx z1;clear zJ zN X zG zC A c2 c3 HZ G K n1;obtain⟨c4,c5,c6,c7,c8,c9,zU⟩:=Aa.c7 z1 4 5 6 7 8 9 10;clear z1;go_wp2_with fail
 refine(Sz v.T v.F v.G v.E d (k+v.ss.length+v.C.length) _ _ _ x v.A v.ps v.ls O C.o.2.2.1 Yw yA).mono ?_;rintro e R ⟨rfl,Y,m⟩;have z2:Aa R w.heap.size (Xq v f i j l y z r s n o t u p q):=Aa.same V.o (m.block _ E (fun e=>by have:=J.o _ (by unfold CC;exact List.mem_append.2 (.inr (List.mem_append.2 (.inl e))));omega));have zK:=C.o.1.Y m (fun g c e=>(HN.o.1 g c).2.1 e)
 have zO:=C.o.2.1.Y m (fun g c e=>(HN.o.2.1 g c).1 e);have zH:=C.o.2.2.2.1.Y m (fun g c e=>(HN.o.2.2.1 g e).1 c);have zE:=C.o.2.2.2.2.1.Y m (fun g c e=>(HN.o.2.2.1 g e).2 c)
 have zA:Tn (CC (.slice f v.ss.length i) (.slice j v.C.length l) (.slice y v.A.length z) (.slice r v.ps.length s) (.slice n v.ls.length o) (.slice t v.D.length u) (.slice p v.ms.length q) x) w R:=(C.o.2.2.2.2.2.mono (fun b a=>by unfold CC;exact List.mem_append.2 (.inl a))).trans (m.mono (fun b a=>by unfold CC;exact List.mem_append.2 (.inr (List.mem_append.2 (.inl a)))))
 have D:=Yx (Zn zK (Zn zO (Zn Y (Zn zH (Zn zE zA)))));have yC:w.heap.size<R.heap.size:=Zr E m.size;clear zK zO Y zH zE m zA C V c4 c5 c6 c7 c8 c9 zU;obtain⟨zV,KF,zW,zX,FE,zY⟩:=Aa.c6 z2 11 12 13 14 15 16;clear z2;go_wp2_with fail;refine(SH v.H v.K v.J v.ro d (k+v.ss.length+v.C.length+CN v.A v.ps v.ls) _ _ v.D v.ms R D.o.2.2.2.1 D.o.2.2.2.2.1 (fun g c=>HN.o.2.2.2 g c) Yw yB).mono ?_
 rintro e w3 ⟨rfl,zI,zF,B⟩;have N:∀b∈(Af (.slice t v.D.length u)).toList++(Af (.slice p v.ms.length q)).toList,Af (.slice f v.ss.length i)≠some b/\Af (.slice j v.C.length l)≠some b/\b∉Bj (.slice y v.A.length z) (.slice r v.ps.length s) (.slice n v.ls.length o) x:=by
  intro b a;simp only[List.mem_append,Option.mem_toList]at a;rcases a with a|a
  .exact⟨fun e=>(HN.o.1 b e).2.2.1 a,fun e=>(HN.o.2.1 b e).2.1 a,fun e=>(HN.o.2.2.1 b e).1 a⟩
  .exact⟨fun e=>(HN.o.1 b e).2.2.2 a,fun e=>(HN.o.2.1 b e).2.2 a,fun e=>(HN.o.2.2.1 b e).2 a⟩
 have zM:=D.o.1.Y B (fun g c e=>(N g e).1 c);have zP:=D.o.2.1.Y B (fun g c e=>(N g e).2.1 c);have Z:=D.o.2.2.1.apart B (fun b a=>(N b a).2.2)
 have zB:Tn (CC (.slice f v.ss.length i) (.slice j v.C.length l) (.slice y v.A.length z) (.slice r v.ps.length s) (.slice n v.ls.length o) (.slice t v.D.length u) (.slice p v.ms.length q) x) w w3:=D.o.2.2.2.2.2.trans (B.mono (fun b a=>by unfold CC;exact List.mem_append.2 (.inr (List.mem_append.2 (.inr a)))));have F:Hid (_/\_):=Zn zB (Zn zM (Zn zP (Zn Z (Zn zI zF))))
 clear zM zP Z zI zF B zB D N zV KF zW zX FE zY J HN;go_wp2;go_ret;exact⟨rfl,⟨F.o.2.1,F.o.2.2.1,F.o.2.2.2.1,F.o.2.2.2.2.1,F.o.2.2.2.2.2,zT.o⟩,F.o.1⟩
theorem SI(v:Vd)(b k:Nat)(S U T P L Q M:Value)(F:Zj)(w:Zh)(h:AU w b S U T P L Q M F (EV k v))(hk:1<=k)(f:k+Ct v<=100000000):
 Calls prog 34 #[.agg #[Zg v.wd,Zg v.U,S,U,Zg v.T,Zg v.F,Zg v.G,Zg v.E,T,P,L,Zg v.H,Q,M,Zg v.K,Zg v.J,Zg v.ro],Zg k] w fun e w'=>e=.returned (Zg (k+Ct v:Nat))/\Zz w w':=by
 obtain⟨j,u,X,hS⟩:=h.s.row;obtain⟨l,z,Z,hU⟩:=h.u.row;obtain⟨x,y,Y⟩:=As h.st.aj;obtain⟨r,s,R⟩:=As h.st.pins;obtain⟨o,p,N⟩:=As h.st.aq;obtain⟨i,t,V,hQ⟩:=h.q.row;obtain⟨g,q,O,hM⟩:=h.m.row;have l1:(EV k v).ss.length=v.ss.length:=BC _ _;have l2:(EV k v).C.length=v.C.length:=BC _ _;have l3:(EV k v).A.length=v.A.length:=BO _ _;have l4:(EV k v).ps.length=v.ps.length:=EE _ _
 have l5:(EV k v).ls.length=v.ls.length:=FK _ _;have l6:(EV k v).D.length=v.D.length:=BC _ _;have l7:(EV k v).ms.length=v.ms.length:=BC _ _;rw[l1]at X;rw[l2]at Z;rw[l3]at Y;rw[l4]at R;rw[l5]at N;rw[l6]at V;rw[l7]at O;subst X Z Y R N V O;obtain⟨W,n⟩:∃W,W=w.alloc (.cells (Xr v j u l z x y r s o p i t g q) 43):=⟨_,rfl⟩;have hb:=(AA n).1;have hz:=(AA n).2.2;have K:Hid (Aa W _ _):=(AA n).2.2
 have I:Hid (Bf w b (.slice x v.A.length y) (.slice r v.ps.length s) (.slice o v.ls.length p) F (Cj (k+v.ss.length+v.C.length) v.A) (Ei (k+v.ss.length+v.C.length+v.A.length *3+AF v.A) v.ps) (Ej (k+v.ss.length+v.C.length+v.A.length *3+AF v.A+v.ps.length *2) v.ls)):=h.st;have m:=Yx (Zb hS (Zb hU (Zb hQ hM)));obtain⟨c2,c3⟩:=Aa.c2 hz 2 3;have J:=Yx n;have c:Hid (Zz w W):=hb
 have zI:k+v.ss.length+v.C.length<=100000000:=by unfold Ct at f;omega
 have zJ:k+v.ss.length+v.C.length+CN v.A v.ps v.ls<=100000000:=by unfold Ct at f;omega
 have zK:k+v.ss.length+v.C.length+CN v.A v.ps v.ls+v.D.length+v.ms.length<=100000000:=by unfold Ct at f;omega
 have zB:Hid (k+Ct v=k+v.ss.length+v.C.length+CN v.A v.ps v.ls+v.D.length+v.ms.length):=by show k+Ct v=_;unfold Ct;omega
 rw[zB.o];clear h n hz hb f hS hU hQ hM l1 l2 l3 l4 l5 l6 l7;go_enter func34,ntmps34;go_upto_region 1 with fail;rw[<-J.o];clear J;go_wp2_with fail;refine(QC j l v.ss.length v.C.length u z k W ((m.o.1.below c.o).mono c.o.size) ((m.o.2.1.below c.o).mono c.o.size) hk zI).mono ?_;rintro e C ⟨rfl,A⟩;have H:Aa C w.heap.size (Xq v j u l z x y r s o p i t g q):=Aa.below K.o A;have D:=Yx H
 have d:Hid (Zz w C):=c.o.trans (A.mono c.o.size);obtain⟨c4,c5,c6,c7,c8,c9,zC⟩:=Aa.c7 H 4 5 6 7 8 9 10;clear H A c2 c3 K c;go_wp2_with fail;refine(SA v.T v.F v.G v.E b (k+v.ss.length+v.C.length) _ _ _ F v.A v.ps v.ls C (I.o.below d.o) Yw zJ).mono ?_;rintro e G ⟨rfl,B⟩;have z2:Aa G w.heap.size (Xq v j u l z x y r s o p i t g q):=Aa.below D.o B
 have a:Hid (Zz w G):=d.o.trans (B.mono d.o.size);obtain⟨zE,KF,zF,zG,FE,zH⟩:=Aa.c6 z2 11 12 13 14 15 16;clear z2 B c4 c5 c6 c7 c8 c9 zC D d;go_wp2_with fail;refine(NR v.H v.K v.J v.ro i g v.D.length v.ms.length t q (k+v.ss.length+v.C.length+CN v.A v.ps v.ls) G ((m.o.2.2.1.below a.o).mono a.o.size) ((m.o.2.2.2.below a.o).mono a.o.size) Yw zK).mono ?_;rintro e w3 ⟨rfl,E⟩
 have zA:Hid (Zz w w3):=a.o.trans (E.mono a.o.size);clear zE KF zF zG FE zH E a m I;go_wp2;go_ret;exact⟨rfl,zA.o⟩
def Bx(v:Vd)(S U T P L Q M:Value):Zj:=[Zg v.wd,Zg v.U,S,U,Zg v.T,Zg v.F,Zg v.G,Zg v.E,T,P,L,Zg v.H,Q,M,Zg v.K,Zg v.J,Zg v.ro]
def XJ(v:Vd)(L:Nat)(X:Zh)(cs:Zj):Prop:=
 ∃a:Va,cs=Bx v (.slice a.R v.ss.length a.Z) (.slice a.N v.C.length a.O) (.slice a.x v.A.length a.kc) (.slice a.Q v.ps.length a.W) (.slice a.P v.ls.length a.X) (.slice a.i v.D.length a.qc) (.slice a.g v.ms.length a.y)/\Ca X L a v
def UL(v u:Vd)(lo N:Nat)(X:Zh)(cs:Zj):Prop:=
 (N<=X.heap.size/\lo<=X.heap.size)/\∃S U T P L Q M rs,cs=Bx v S U T P L Q M/\AU X lo S U T P L Q M rs u/\∀g∈CC S U T P L Q M rs,g<N
theorem AU.io{a:Nat}{p:Zj}(h:AU X a S U T P L Q M p v):XJ v X.heap.size X (Bx v S U T P L Q M):=by obtain⟨q,r,rfl,b⟩:=h.s.row;obtain⟨u,x,rfl,c⟩:=h.u.row;obtain⟨s,t,l,m,g,i,rfl,rfl,rfl,d⟩:=h.st.rows;obtain⟨n,o,rfl,e⟩:=h.q.row;obtain⟨j,k,rfl,f⟩:=h.m.row;exact⟨⟨q,r,u,x,s,t,l,m,g,i,n,o,j,k⟩,rfl,⟨b,c,d,e,f⟩⟩
theorem Bf.at{w':Zh}{e:List Kd}{j:List Pd}{f:List Ld}(h:Bf w base T P L c e j f)(b:∀g∈Bj T P L c,w'.heap[g]?=w.heap[g]?):Bf w' base T P L c e j f:=
 ⟨h.len,Ak h.aj (fun g a=>b g (by unfold Bj;simp[a])),fun i k r l d=>Ak (h.B i k r l d) (fun g a=>b g (by unfold Bj;simp only[List.mem_append,List.mem_filterMap];exact .inr (.inr (.inr ⟨r,Zs d,a⟩)))),Ak h.pins (fun g a=>b g (by unfold Bj;simp[a])),Ak h.aq (fun g a=>b g (by unfold Bj;simp[a])),h.nd⟩
theorem AU.ah{c:Zh}{lo:Nat}{d:Zj}(b:AU X lo S U T P L Q M d u)(h:∀g∈CC S U T P L Q M d,g<N)(f:X.heap.size<=c.heap.size)(j:∀q,lo<=q->q<N->c.heap[q]?=X.heap[q]?):AU c lo S U T P L Q M d u:=by
 have e:∀g∈CC S U T P L Q M d,c.heap[g]?=X.heap[g]?:=fun g a=>j g (b.lo g a) (h g a);have i:∀g∈Bj T P L d,c.heap[g]?=X.heap[g]?:=fun g a=>e g (by unfold CC;simp only[List.mem_append];exact .inr (.inl a));unfold CC at e;simp only[List.mem_append,Option.mem_toList]at e
 exact⟨b.s.stays f (fun g a=>e g (.inl (.inl a))),b.u.stays f (fun g a=>e g (.inl (.inr a))),b.st.at i,b.q.stays f (fun g a=>e g (.inr (.inr (.inl a)))),b.m.stays f (fun g a=>e g (.inr (.inr (.inr a)))),b.nd⟩
theorem UL.ah{lo:Nat}(h:UL v u lo N X c)(b:X.heap.size<=a.heap.size)(g:∀q,lo<=q->q<N->a.heap[q]?=X.heap[q]?):UL v u lo N a c:=by obtain⟨e,S,U,T,P,L,Q,M,i,rfl,f,d⟩:=h;exact⟨⟨Zm e.1 b,Zm e.2 b⟩,S,U,T,P,L,Q,M,i,rfl,f.ah d b g,d⟩
theorem Dl.gq(h:Dl v):1000+Ct v<=90000000:=by unfold Ct CN;have:=h.s;have:=h.t;have:=h.st.k;have:=h.st.p;have:=h.st.l;have:=h.r.q;have:=h.r.m;have:=h.rn;omega
theorem Ack(v:Vd)(l:Dl v):JT 17 1 9 10 (XJ v) (UL v v) (fun lo N X d K=>K=1+Ct v/\UL v (EV 1 v) lo N X d):=by
 refine⟨?_,?_,?_,?_,?_,?_,?_,?_⟩
 .rintro X d z ⟨a,rfl,c⟩ ⟨b,rfl,g⟩;exact KC v a b X c g l
 .rintro lo N X d k ⟨f,S,U,T,P,L,Q,M,o,rfl,c,g⟩ u x;obtain rfl:k=1:=Yw
  refine(Jh v lo 1 S U T P L Q M o X c Yw (by have:=l.gq;omega)).mono ?_;rintro e j ⟨rfl,r,i⟩;exact⟨⟨1+Ct v,rfl,Yw,by have:=l.gq;omega,rfl,⟨Zm f.1 i.size,Zm f.2 i.size⟩,S,U,T,P,L,Q,M,o,rfl,r,g⟩,i.below f.2 c.lo,fun q A p=>i.block q p (fun e=>by have:=g q e;omega)⟩
 .rintro L X j d ⟨a,rfl,c⟩ s;exact⟨a,rfl,c.ah s⟩
 .rintro L y X d ⟨a,rfl,c⟩ t;exact⟨a,rfl,c.mono t⟩
 .intro lo N X j d h n m;exact h.ah n m
 .rintro lo N X j d K ⟨rfl,h⟩ n m;exact⟨rfl,h.ah n m⟩
 .rintro lo N X d ⟨f,S,U,T,P,L,Q,M,o,rfl,c,_⟩;exact⟨f.1,c.io⟩
 .rintro L X d ⟨a,rfl,_⟩;exact⟨rfl,by simp[Bx,Value.oneCell']⟩
theorem Cm.grown{g:Zh}{q:Nat}{e c f:Int}(h:Cm w b e Q M d c f)(a:w.grownBy g (some q))(o:b≠q):Cm g b e Q M d c f:=by obtain⟨i,j,k,l,m,n,r⟩:=h;have p:=a.size;exact⟨a.cell i Yu,a.cell j Yu,a.cell k Yu,a.cell l Yu,a.cell m Yu,a.cell n Yu,Yw⟩
theorem LZ(n k j q:Int)(g h B C:Nat)(b a:Zl)(w:Zh)(N:Ad w w.heap.size (some ⟨g,0,none⟩) b)(M:Ad w w.heap.size (some ⟨h,0,none⟩) a)(L:IC b a):
 Calls prog 118 #[.agg (Ya n (some ⟨g,0,none⟩) b.length B (some ⟨h,0,none⟩) a.length C k j q)] w fun e H=>∃x l y m,e=.returned (.agg (Ya n (some ⟨x,0,none⟩) b.length l (some ⟨y,0,none⟩) a.length m k j q))/\
  H.ownsRow w.heap.size 9 1 (Za x b.length l) b.length (b.map Value.string)/\H.ownsRow w.heap.size 9 1 (Za y a.length m) a.length (a.map Value.string)/\x≠y/\Zz w H:=by
 obtain⟨W,i⟩:∃W,W=(w.alloc (.cells (Ya n (some ⟨g,0,none⟩) b.length B (some ⟨h,0,none⟩) a.length C k j q) 41)).alloc (.cells Xp 41):=⟨_,rfl⟩;have f:Below w.heap.size w W:=by rw[i];exact(Zy).alloc Yv _
 have Q:Cm W (w.heap.size+1) 0 Zc Zc 0 0 0:=by rw[i];exact⟨by simp[go_sem],by simp[go_sem],by simp[go_sem],by simp[go_sem],by simp[go_sem],by simp[go_sem],Yv⟩
 have P:Cm W w.heap.size n (Za g b.length B) (Za h a.length C) k j q:=by rw[i];exact⟨by simp[go_sem],by simp[go_sem],by simp[go_sem],by simp[go_sem],by simp[go_sem],by simp[go_sem],Yo⟩
 have Z:∀o,W.frozen? ⟨w.heap.size,o,none⟩=false:=fun o=>by rw[i];simp[go_sem]
 have f1:∀o,W.frozen? ⟨w.heap.size+1,o,none⟩=false:=fun o=>by rw[i];simp[go_sem]
 have zA:W.heap.size=w.heap.size+2:=by rw[i];simp
 have K:=Yx i;have s:=Yx P;have D:=Yx Q;have J:=Yx N;have I:=Yx M;clear i Q N M;obtain⟨S,T,U,V,X,Y,a6⟩:=P;go_enter func118,ntmps118;go_upto_region 1 with fail;rw[<-K.o];go_region_with (first
  |(go_at_call 113;refine(ML g B b W.drew (Ad.j (w:=w) J.o f.drew) L.q).mono ?_;rintro e O ⟨x,l,rfl,u,E⟩;have c:Below W.heap.size W O:=(Below.refl W.heap.size W).drew.trans E;obtain⟨b0,b1,b2,b3,b4,b5,b6⟩:=Cm.below s.o c;have lx:=u.lt x rfl)
  |(go_at_call 113;refine(ML h C a O (Ad.j (w:=w) I.o (f.trans (c.mono f.size))) L.m).mono ?_;rintro e r ⟨y,m,rfl,z,t⟩;have ly:=z.lt y rfl;have d:Below W.heap.size W r:=c.trans (t.mono c.size);obtain⟨c0,c1,c2,c3,c4,c5,c6⟩:=Cm.below s.o d;obtain⟨d0,d1,d2,d3,d4,d5,d6⟩:=Cm.below D.o d;have e0:∀o,r.frozen? ⟨w.heap.size,o,none⟩=false:=(fun o=>(d.frozen (p:=⟨w.heap.size,o,none⟩) Yu).trans (Z o));have e1:∀o,r.frozen? ⟨w.heap.size+1,o,none⟩=false:=(fun o=>(d.frozen (p:=⟨w.heap.size+1,o,none⟩) Yu).trans (f1 o))))
 all_goals
  have F:r.ownsRow (w.heap.size+2) 9 1 (Za x b.length l) b.length (b.map Value.string):=(Ol u t).mono Yu;have G:r.ownsRow (w.heap.size+2) 9 1 (Za y a.length m) a.length (a.map Value.string):=z.mono (by have:=c.size;omega);have R:x≠y:=Yw
  have A:=Yx (Zn F (Zn G (Zn R (f.trans (d.mono f.size)))));clear F G u z E t c d s D J I S T U V X Y f K;go_wp2;refine bodyPost_ret (v:=.agg (Ya n (some ⟨x,0,none⟩) b.length l (some ⟨y,0,none⟩) a.length m k j q)) (by simp[results,results118,go_sem,d0,d1,d2,d3,d4,d5]) rfl ⟨x,l,y,m,rfl,?_,?_,A.o.2.2.1,?_⟩
  .refine World.ownsRow.mono ?_ (show w.heap.size<=w.heap.size+2 by omega)
   iterate 8 (refine ownsRow_setCell_below ?_ Yo _)
   exact A.o.1
  .refine World.ownsRow.mono ?_ (show w.heap.size<=w.heap.size+2 by omega)
   iterate 8 (refine ownsRow_setCell_below ?_ Yo _)
   exact A.o.2.1
  .iterate 8 (refine Below.setCell ?_ Yv _)
   exact A.o.2.2.2
section
open Classical in
end
section
attribute [local go_sem↓] Go.wp_at_zero Go.wp_at_succ
def TS(W:Zh)(b c:Nat)(wd:Value)(s t r:Value)(w':Zh):Prop:=
 w'.cell? (Ze b 0)=some wd/\w'.cell? (Ze c 0)=some s/\w'.cell? (Ze c 2)=some t/\w'.cell? (Ze c 3)=some r/\Zz W w'
theorem TS.ah{d:Zh}{c:Nat}{g:Value}(h:TS W b c g s t r e)(a:Zz e d)(m:b<W.heap.size)(n:c<W.heap.size):TS W b c g s t r d:=by obtain⟨i,j,k,l,f⟩:=h;have:=f.size;exact⟨(a.cell (p:=⟨b,0,none⟩) Yu).trans i,(a.cell (p:=⟨c,0,none⟩) Yu).trans j,(a.cell (p:=⟨c,2,none⟩) Yu).trans k,(a.cell (p:=⟨c,3,none⟩) Yu).trans l,f.trans (a.mono this)⟩
theorem TS.drew{c:Nat}{d:Value}(h:TS W b c d s t r a):TS W b c d s t r a.drew:=⟨h.1,h.2.1,h.2.2.1,h.2.2.2.1,h.2.2.2.2.drew⟩
theorem TS.new{a:TypeId}(s b t r:Value)(e:wr.cell? (Ze (w.heap.size) 0)=some (Zg d))(f:w.heap.size<wr.heap.size):
 Below wr.heap.size wr ((wr.alloc (.cells #[s,b,t,r] a)).drewN n)/\((wr.alloc (.cells #[s,b,t,r] a)).drewN n).heap.size=wr.heap.size+1/\
  TS ((wr.alloc (.cells #[s,b,t,r] a)).drewN n) w.heap.size wr.heap.size (Zg d) s t r ((wr.alloc (.cells #[s,b,t,r] a)).drewN n):=by
 have c:Below wr.heap.size wr ((wr.alloc (.cells #[s,b,t,r] a)).drewN n):=Cb (Zy) _;refine⟨c,by rw[RH];simp,(c.cell (p:=⟨w.heap.size,0,none⟩) f).trans e,?_,?_,?_,Below.refl _ _⟩
 all_goals rw[RG];simp
end
section
attribute [local go_sem↓] Go.wp_at_zero Go.wp_at_succ
def Py(w:Zh)(b:Nat)(wd:Int)(m:Nat):Prop:=w.cell? (Ze b 0)=some (Zg wd)/\w.cell? (Ze b 1)=some (.map (some m))/\b<w.heap.size
theorem Py.new(w:Zh)(a:Int)(m:Nat)(t:TypeId):Py (w.alloc (.cells #[Zg a,.map (some m)] t)) w.heap.size a m:=⟨Yv,Yv,Yv⟩
theorem Py.ah{d:Zh}{m:Nat}{e:Int}(h:Py w b e m)(a:Below B w d)(c:b<B):Py d b e m:=
 ⟨(a.cell (p:=⟨b,0,none⟩) c).trans h.1,(a.cell (p:=⟨b,1,none⟩) c).trans h.2.1,Zr h.2.2 a.size⟩
end
section
open Classical in
noncomputable def shQ (ph:Int) (ks:List Kd) (qs ms:Zl) (s:Zi):Zl:=if ¬ph=0/\Av ks s/\¬s∈ms/\¬qs.length=23200 then qs++[s]else qs
end
section
attribute [local go_sem↓] Go.wp_at_zero Go.wp_at_succ
def seen(ks:List Kd)(k:Nat)(n:Int):Bool:=(ks.take k).any (fun x=>decide (x.born=n))
def flags(ks:List Kd)(k:Nat):Zj:=(List.range 601).map (fun(n:Nat)=>Value.bool (seen ks k n))
def later(ks:List Kd)(k:Nat):List Int:=((ks.take k).map (·.born)).filter (fun b=>decide (600<b))
structure LT1 (w wr:Zh) (ks:List Kd) (k:Nat) (v:Value):Prop where
 br:Below w.heap.size w wr
 fl:wr.ownsRow (w.heap.size+1) 4 1 (.slice (some ⟨w.heap.size+1,0,none⟩) 601 601) 601 (flags ks k)
 P:wr.ownsRow (w.heap.size+2) 3 1 v (later ks k).length ((later ks k).map (Value.int .i64))
theorem LT1.ah{c:List Kd}{v:Value}(h:LT1 w wr c k v)(b:Zz wr a):LT1 w a c k v:=
 ⟨h.br.trans (b.mono h.br.size),h.fl.kept (Aq none b) (.inr (by simp[Value.ownBlock])),h.P.kept (Aq none b) (by cases v.ownBlock<;>simp)⟩
end
section
attribute [local go_sem↓] Go.wp_at_zero Go.wp_at_succ
end
section
def Acl(wd:Int)(k:Kd):Int:=1+k.B.length *wd+k.M.size
def Acm(wd:Int)(ks:List Kd):Int:=(ks.map (Acl wd)).sum
open Classical in
end
theorem NT(a b:Zk)(c d:Nat)(f h:Zl)(w:Zh)(J:Ad w w.heap.size a f)(I:Ad w w.heap.size b h)(R:f.length<=1048576)(N:h.length<=1048576):
 Calls prog 127 #[.agg #[.slice a f.length c,.slice b h.length d]] w fun e D=>∃x k y l,e=.returned (.agg #[.slice x f.length k,.slice y h.length l])/\
  D.ownsRow w.heap.size 9 1 (.slice x f.length k) f.length (f.map Value.string)/\D.ownsRow w.heap.size 9 1 (.slice y h.length l) h.length (h.map Value.string)/\(∀g,(Value.slice x f.length k).ownBlock=some g->(Value.slice y h.length l).ownBlock≠some g)/\Zz w D:=by
 obtain⟨W,m⟩:∃W,W=(w.alloc (.cells #[.slice a f.length c,.slice b h.length d] 35)).alloc (.cells #[Zc,Zc] 35):=⟨_,rfl⟩;have j:=(Bo m).1;have L:=(Bo m).2.2.1;have M:Aa W (w.heap.size+1) [Zc,Zc]:=by have t:=Aa.new (w.alloc (.cells #[.slice a f.length c,.slice b h.length d] 35)) [Zc,Zc] 35;rw[World.size_alloc]at t;rw[m];exact t
 have S:=(Bo m).2.1;have H:=Yx m;have u:Hid (Aa W _ _):=(Bo m).2.2.1;have o:Hid (Aa W (w.heap.size+1) [Zc,Zc]):=M;have G:Hid (Ad w w.heap.size a f):=J;have F:Hid (Ad w w.heap.size b h):=I;obtain⟨O,P⟩:=Aa.c2 L 0 1;clear m L M J I;go_enter func127,ntmps127;go_upto_region 1 with fail;rw[<-H.o];clear H;go_region_with (first
  |(go_at_call 113;refine(Hg a c f W.drew (Ad.j (w:=w) G.o j.drew) R).mono ?_;rintro e K ⟨x,k,rfl,q,z⟩;have i:Below W.heap.size W K:=(Below.refl W.heap.size W).drew.trans z;obtain⟨b1,_⟩:=Aa.below u.o i 1 _ rfl)
  |(go_at_call 113;refine(Hg b d h K (Ad.j (w:=w) F.o (j.trans (i.mono j.size))) N).mono ?_;rintro e E ⟨y,l,rfl,r,p⟩;have n:Below W.heap.size W E:=i.trans (p.mono i.size);obtain⟨d0,e0⟩:=Aa.below o.o n 0 _ rfl;obtain⟨d1,e1⟩:=Aa.below o.o n 1 _ rfl))
 all_goals
  have A:E.ownsRow (w.heap.size+2) 9 1 (.slice x f.length k) f.length (f.map Value.string):=(Ol q p).mono Yu;have B:E.ownsRow (w.heap.size+2) 9 1 (.slice y h.length l) h.length (h.map Value.string):=r.mono (by have:=i.size;omega);have C:∀g,(Value.slice x f.length k).ownBlock=some g->(Value.slice y h.length l).ownBlock≠some g:=fun g t Q=>by have T:=(Ac q t).2;have U:=(Ac r Q).1;omega
  have s:=Yx (Zn A (Zn B (Zn C (j.trans (n.mono j.size)))));clear A B q r z p i n u o G F O P j C;go_wp2;refine bodyPost_ret (v:=.agg #[.slice x f.length k,.slice y h.length l]) (by simp[results,results127,go_sem,d0,d1]) rfl ⟨x,k,y,l,rfl,?_,?_,s.o.2.2.1,?_⟩
  .refine World.ownsRow.mono ?_ (show w.heap.size<=w.heap.size+2 by omega)
   iterate 2 (refine ownsRow_setCell_below ?_ Yo _)
   exact s.o.1
  .refine World.ownsRow.mono ?_ (show w.heap.size<=w.heap.size+2 by omega)
   iterate 2 (refine ownsRow_setCell_below ?_ Yo _)
   exact s.o.2.1
  .iterate 2 (refine Below.setCell ?_ Yv _)
   exact s.o.2.2.2
theorem SJ(a b:Zk)(c d:Nat)(f g:Zl)(w:Zh)(z:Ad w w.heap.size a f)(v:Ad w w.heap.size b g)(W:f.length<=100000)(Q:g.length<=1048576):
 Calls prog 150 #[.slice a f.length c,.slice b g.length d] w fun e O=>Ap (f=g) w O e:=by
 have s:Hid (∀X,Zz w X->Ad X w.heap.size a f/\Ad X w.heap.size b g):=fun X u=>⟨z.below u,v.below u⟩;clear z v;by_cases hlen:f.length=g.length
 .have F:((f.length:Int) !=(g.length:Int))=false:=Yu
  have m:=Yx hlen;clear hlen;go_enter func150,ntmps150;go_wp2
  go_loopw [13] (fun i wr=>∃k:Nat,k<=f.length/\i=Zg k/\Hid (f.take k=g.take k/\Zz w wr)) (fun i _=>f.length -(intOf i).toNat)
  case atStart=>exact⟨0,Nat.zero_le _,rfl,⟨Yv,Below.refl _ _⟩⟩
  case round=>
   obtain⟨k,V,rfl,l⟩:=hrel;by_cases hlt:k<f.length
   .have j:k<g.length:=by have:=m.o;omega
    obtain⟨rb,ro,M,I,p⟩:=(s.o wr l.o.2).1.at hlt;obtain⟨Y,Z,N,H,o⟩:=(s.o wr l.o.2).2.at j;subst M N;have T:=p k _ (Zv hlt);have U:=o k _ (Zv j);have A:=l.o.2.size;have S:=Zr I A;have R:=Zr H A;have D:=Yx (Zu hlt);have E:=Yx (Zu j);have HN:Hid (∀x y,f[k]?=some x->g[k]?=some y->x≠y->f≠g):=fun x y L t G e=>by subst e;rw[L]at t;exact G (Option.some.inj t)
    have B:=Yx (Zv hlt);have C:=Yx (Zv j);have P:(k:Int)<g.length:=Yw
    clear p o;generalize f[k]=x at *
    generalize g[k]=y at *
    have r:=Yx l.o.2;by_cases hxy:x=y
    .subst hxy;have q:(x.toList !=x.toList)=false:=Yv
     go_wp2
     go_region
     all_goals go_wp2
     all_goals exact⟨⟨k+1,Yw,Yp,⟨by rw[D.o,E.o,l.o.1],r.o.drew⟩⟩,by simp[intOf];omega⟩
    .have q:=Cd hxy;have K:(x.toList !=y.toList)=true:=by simp[bne,q]
     go_wp2
     go_region
     all_goals go_wp2
     all_goals go_ret
     all_goals exact Ap.no (fun h=>HN.o x y B.o C.o hxy h) r.o.drew
   .obtain rfl:k=f.length:=Yw
    have n:=l.o.1;rw[Zt (Zx),Zt (by have:=m.o;omega)]at n;go_wp2;go_ret;exact Ap.yes n l.o.2
 .have F:((f.length:Int)==(g.length:Int))=false:=Yu
  have J:((f.length:Int) !=(g.length:Int))=true:=Yu
  go_enter func150,ntmps150;go_wp2;go_ret;exact Ap.no (fun h=>hlen (by rw[h])) (Below.refl _ _)
theorem Kd.eq_iff(x y:Kd):x=y↔x.sum=y.sum/\x.born=y.born/\x.M=y.M/\x.B=y.B:=by cases x;cases y;simp
theorem Pz(x y:Kd)(a b:Zk)(c d:Nat)(w:Zh)(l:Ad w w.heap.size a x.B)(k:Ad w w.heap.size b y.B)(E:x.B.length<=100000)(q:y.B.length<=1048576):
 Calls prog 108 #[.agg #[.string x.sum,Zg x.born,.string x.M,.slice a x.B.length c],.agg #[.string y.sum,Zg y.born,.string y.M,.slice b y.B.length d]] w fun e M=>Ap (x=y) w M e:=by
 obtain⟨W,j⟩:∃W,W=(w.alloc (.cells #[.string x.sum,Zg x.born,.string x.M,.slice a x.B.length c] 99)).alloc (.cells #[.string y.sum,Zg y.born,.string y.M,.slice b y.B.length d] 99):=⟨_,rfl⟩;have g:=(Bo j).1;have m:=(Bo j).2.2.1;have n:Aa W (w.heap.size+1) [.string y.sum,Zg y.born,.string y.M,.slice b y.B.length d]:=by have f:=Aa.new (w.alloc (.cells #[.string x.sum,Zg x.born,.string x.M,.slice a x.B.length c] 99)) [.string y.sum,Zg y.born,.string y.M,.slice b y.B.length d] 99;rw[World.size_alloc]at f;rw[j];exact f
 have v:=Yx (SJ a b c d x.B y.B W (l.j g) (k.j g) E q);obtain⟨F,G,H,I⟩:=Aa.c4 m 0 1 2 3;obtain⟨v0,J,K,L⟩:=Aa.c4 n 0 1 2 3;have i:=Yx j;have u:=Yx (Kd.eq_iff x y);clear j l k m n;by_cases f:x.sum=y.sum
 .have A:(x.sum.toList==y.sum.toList)=true:=by rw[f];simp
  have r:=Yx f;clear f;by_cases h2:x.born=y.born
  .have B:(x.born==y.born)=true:=by simp[h2]
   have s:=Yx h2;clear h2;by_cases h3:x.M=y.M
   .have C:(x.M.toList==y.M.toList)=true:=by rw[h3];simp
    have t:=Yx h3;clear h3;go_enter func108,ntmps108;go_upto_region 1 with fail;rw[<-i.o];clear i;go_wp2_with fail;refine Calls.mono v.o ?_;rintro e N ⟨z,rfl,p,o⟩;have D:=g.trans (o.mono g.size);clear F G H I v0 J K L;go_wp2;go_ret;exact⟨z,rfl,by rw[p,u.o];exact⟨fun h=>⟨r.o,s.o,t.o,h⟩,fun h=>h.2.2.2⟩,D⟩
   .have C:=Cd h3;go_enter func108,ntmps108;go_upto_region 1 with fail;rw[<-i.o];go_wp2_with fail
    all_goals (try go_wp2)
    all_goals (try go_ret)
    all_goals exact Ap.no (fun h=>h3 (by rw[h])) g
  .have B:(x.born==y.born)=false:=by simp[h2]
   go_enter func108,ntmps108;go_upto_region 1 with fail;rw[<-i.o];go_wp2_with fail
   all_goals (try go_wp2)
   all_goals (try go_ret)
   all_goals exact Ap.no (fun h=>h2 (by rw[h])) g
 .have A:=Cd f;go_enter func108,ntmps108;go_upto_region 1 with fail;rw[<-i.o];go_wp2_with fail
  all_goals (try go_wp2)
  all_goals (try go_ret)
  all_goals exact Ap.no (fun h=>f (by rw[h])) g
theorem NU(a b:Zk)(c d:Nat)(f g:List Kd)(w:Zh)(L:By w w.heap.size a f)(K:By w w.heap.size b g)(hl:f.length<=100000)(zC:g.length<=1048576)(p:∀k∈f,k.B.length<=100000)(z:∀k∈g,k.B.length<=1048576):
 Calls prog 107 #[.slice a f.length c,.slice b g.length d,.func (.func 108) #[] #[]] w fun e w'=>Ap (f=g) w w' e:=by
 have I:Hid (∀X,Zz w X->By X w.heap.size a f/\By X w.heap.size b g):=fun X J=>⟨L.below J,K.below J⟩;clear L K;by_cases hlen:f.length=g.length
 .have S:((f.length:Int) !=(g.length:Int))=false:=Yu
  have m:=Yx hlen;clear hlen;go_enter func107,ntmps107;go_wp2
  go_loopw [17] (fun i wr=>∃k:Nat,k<=f.length/\i=Zg k/\Hid (f.take k=g.take k/\Zz w wr)) (fun i _=>f.length -(intOf i).toNat)
  case atStart=>exact⟨0,Nat.zero_le _,rfl,⟨Yv,Below.refl _ _⟩⟩
  case round=>
   obtain⟨k,hk,rfl,l⟩:=hrel;by_cases hlt:k<f.length
   .have j:k<g.length:=by have:=m.o;omega
    obtain⟨rb,ro,ha,W,F⟩:=(I.o wr l.o.2).1.at hlt;obtain⟨qb,qo,hb,V,D⟩:=(I.o wr l.o.2).2.at j;subst ha hb;obtain⟨c0,c1,c2,ra,G,c3,E⟩:=F k _ (Zv hlt);obtain⟨d0,d1,d2,q,r,d3,o⟩:=D k _ (Zv j);have t:=l.o.2.size;have zF:=Zr W t;have zE:=Zr V t;have Q:=Yx (Zu hlt);have R:=Yx (Zu j);have HN:Hid (∀x y,f[k]?=some x->g[k]?=some y->x≠y->f≠g):=fun x y p z T e=>by subst e;rw[p]at z;exact T (Option.some.inj z)
    have O:=Yx (Zv hlt);have P:=Yx (Zv j);have Y:=p _ (List.getElem_mem hlt);have Z:=z _ (List.getElem_mem j);have zB:(k:Int)<g.length:=Yw
    clear F D;generalize f[k]=x at *
    generalize g[k]=y at *
    obtain⟨U,s⟩:∃U,U=(wr.alloc (.cells #[.string x.sum,Zg x.born,.string x.M,.slice ra x.B.length G] 99)).alloc (.cells #[.string y.sum,Zg y.born,.string y.M,.slice q y.B.length r] 99):=⟨_,rfl⟩;have v:=(Bo s).1;have H:=Yx (l.o.2.trans (v.mono t));have M:=(Bo s).2.2.1;have N:Aa U (wr.heap.size+1) [.string y.sum,Zg y.born,.string y.M,.slice q y.B.length r]:=by have p:=Aa.new (wr.alloc (.cells #[.string x.sum,Zg x.born,.string x.M,.slice ra x.B.length G] 99)) [.string y.sum,Zg y.born,.string y.M,.slice q y.B.length r] 99;rw[World.size_alloc]at p;rw[s];exact p
    have HS:=Yx (Pz x y ra q G r U (Ad.j (Ad.mono E t) v) (Ad.j (Ad.mono o t) v) Y Z);obtain⟨m0,m1,m2,m3⟩:=Aa.c4 M 0 1 2 3;obtain⟨n0,n1,n2,n3⟩:=Aa.c4 N 0 1 2 3;have HU:=Yx s;clear s M N E o v;go_upto_region 7 with fail;rw[<-HU.o];clear HU c0 c1 c2 c3 d0 d1 d2 d3;go_wp2_with fail;refine Calls.mono HS.o ?_;rintro e w1 ⟨bb,rfl,C,B⟩;have A:=Yx (H.o.trans (B.mono H.o.size))
    clear m0 m1 m2 m3 n0 n1 n2 n3 HS B;cases bb with
    |true=>have u:=C.1 rfl;go_wp2;exact⟨⟨k+1,Yw,Yp,⟨by rw[Q.o,R.o,l.o.1,u],A.o⟩⟩,by simp[intOf];omega⟩
    |false=>
     have u:x≠y:=fun e=>by have:=C.2 e;cases this
     go_wp2;go_ret;exact Ap.no (fun h=>HN.o x y O.o P.o u h) A.o
   .obtain rfl:k=f.length:=Yw
    have n:=l.o.1;rw[Zt (Zx),Zt (by have:=m.o;omega)]at n;go_wp2;go_ret;exact Ap.yes n l.o.2
 .have S:((f.length:Int)==(g.length:Int))=false:=Yu
  have zA:((f.length:Int) !=(g.length:Int))=true:=Yu
  go_enter func107,ntmps107;go_wp2;go_ret;exact Ap.no (fun h=>hlen (by rw[h])) (Below.refl _ _)
theorem SK(a b:Zk)(c d:Nat)(f g:List Pd)(w:Zh)(B:AG w w.heap.size a f)(A:AG w w.heap.size b g)(hl:f.length<=100000)(Q:g.length<=1048576):
 Calls prog 109 #[.slice a f.length c,.slice b g.length d] w fun e O=>Ap (f=g) w O e:=by
 have u:Hid (∀X,Zz w X->AG X w.heap.size a f/\AG X w.heap.size b g):=fun X z=>⟨B.below z,A.below z⟩;clear B A;by_cases hlen:f.length=g.length
 .have F:((f.length:Int) !=(g.length:Int))=false:=Yu
  have m:=Yx hlen;clear hlen;go_enter func109,ntmps109;go_wp2
  go_loopw [13] (fun i wr=>∃k:Nat,k<=f.length/\i=Zg k/\Hid (f.take k=g.take k/\Zz w wr)) (fun i _=>f.length -(intOf i).toNat)
  case atStart=>exact⟨0,Nat.zero_le _,rfl,⟨Yv,Below.refl _ _⟩⟩
  case round=>
   obtain⟨k,Z,rfl,l⟩:=hrel;by_cases hlt:k<f.length
   .have j:k<g.length:=by have:=m.o;omega
    obtain⟨rb,ro,M,J,r⟩:=(u.o wr l.o.2).1.at hlt;obtain⟨qb,qo,N,I,q⟩:=(u.o wr l.o.2).2.at j;subst M N;obtain⟨T,U⟩:=r k _ (Zv hlt);obtain⟨V,W⟩:=q k _ (Zv j);have C:=l.o.2.size;have S:=Zr J C;have R:=Zr I C;have D:=Yx (Zu hlt);have E:=Yx (Zu j);have HN:Hid (∀x y,f[k]?=some x->g[k]?=some y->x≠y->f≠g):=fun x y L v H e=>by subst e;rw[L]at v;exact H (Option.some.inj v)
    have o:=Yx (Zv hlt);have p:=Yx (Zv j);have P:(k:Int)<g.length:=Yw
    clear r q;generalize f[k]=x at *
    generalize g[k]=y at *
    have s:=Yx l.o.2;by_cases hxy:x=y
    .subst hxy;go_wp2
     go_region
     all_goals go_wp2
     all_goals exact⟨⟨k+1,Yw,Yp,⟨by rw[D.o,E.o,l.o.1],s.o.drew⟩⟩,by simp[intOf];omega⟩
    .by_cases hn:x.name=y.name
     .have hs:¬x.sum.toList=y.sum.toList:=fun e=>hxy (by
       have Y:=Gj e;cases x;cases y;simp_all)
      have G:x.name.toList=y.name.toList:=by rw[hn]
      have t:=Yx hxy;clear hn hxy;go_wp2
      go_region
      all_goals go_wp2
      all_goals go_ret
      all_goals exact Ap.no (fun h=>HN.o x y o.o p.o t.o h) s.o.drew
     .have G:¬x.name.toList=y.name.toList:=fun e=>hn (Gj e);have t:=Yx hxy;clear hn hxy;go_wp2
      go_region
      all_goals go_wp2
      all_goals go_ret
      all_goals exact Ap.no (fun h=>HN.o x y o.o p.o t.o h) s.o.drew
   .obtain rfl:k=f.length:=Yw
    have n:=l.o.1;rw[Zt (Zx),Zt (by have:=m.o;omega)]at n;go_wp2;go_ret;exact Ap.yes n l.o.2
 .have F:((f.length:Int)==(g.length:Int))=false:=Yu
  have K:((f.length:Int) !=(g.length:Int))=true:=Yu
  go_enter func109,ntmps109;go_wp2;go_ret;exact Ap.no (fun h=>hlen (by rw[h])) (Below.refl _ _)
theorem SL(a b:Zk)(c d:Nat)(f g:List Ld)(w:Zh)(B:AI w w.heap.size a f)(A:AI w w.heap.size b g)(hl:f.length<=100000)(Q:g.length<=1048576):
 Calls prog 110 #[.slice a f.length c,.slice b g.length d] w fun e O=>Ap (f=g) w O e:=by
 have u:Hid (∀X,Zz w X->AI X w.heap.size a f/\AI X w.heap.size b g):=fun X z=>⟨B.below z,A.below z⟩;clear B A;by_cases hlen:f.length=g.length
 .have F:((f.length:Int) !=(g.length:Int))=false:=Yu
  have m:=Yx hlen;clear hlen;go_enter func110,ntmps110;go_wp2
  go_loopw [13] (fun i wr=>∃k:Nat,k<=f.length/\i=Zg k/\Hid (f.take k=g.take k/\Zz w wr)) (fun i _=>f.length -(intOf i).toNat)
  case atStart=>exact⟨0,Nat.zero_le _,rfl,⟨Yv,Below.refl _ _⟩⟩
  case round=>
   obtain⟨k,Z,rfl,l⟩:=hrel;by_cases hlt:k<f.length
   .have j:k<g.length:=by have:=m.o;omega
    obtain⟨rb,ro,M,I,s⟩:=(u.o wr l.o.2).1.at hlt;obtain⟨qb,qo,N,H,r⟩:=(u.o wr l.o.2).2.at j;subst M N;obtain⟨T,U,c2⟩:=s k _ (Zv hlt);obtain⟨V,W,Y⟩:=r k _ (Zv j);have C:=l.o.2.size;have S:=Zr I C;have R:=Zr H C;have D:=Yx (Zu hlt);have E:=Yx (Zu j);have HN:Hid (∀x y,f[k]?=some x->g[k]?=some y->x≠y->f≠g):=fun x y L v G e=>by subst e;rw[L]at v;exact G (Option.some.inj v)
    have o:=Yx (Zv hlt);have p:=Yx (Zv j);have P:(k:Int)<g.length:=Yw
    clear s r;generalize f[k]=x at *
    generalize g[k]=y at *
    have q:=Yx l.o.2;by_cases hxy:x=y
    .subst hxy;go_wp2
     go_region
     all_goals go_wp2
     all_goals exact⟨⟨k+1,Yw,Yp,⟨by rw[D.o,E.o,l.o.1],q.o.drew⟩⟩,by simp[intOf];omega⟩
    .have t:=Yx hxy;by_cases hn:x.V=y.V
     .by_cases hs:x.sum=y.sum
      .have ht:¬x.bg=y.bg:=fun e=>hxy (by
        cases x;cases y;simp_all)
       have J:x.sum.toList=y.sum.toList:=by rw[hs]
       clear hs hxy;go_wp2
       go_region
       all_goals go_wp2
       all_goals go_ret
       all_goals exact Ap.no (fun h=>HN.o x y o.o p.o t.o h) q.o.drew
      .have J:¬x.sum.toList=y.sum.toList:=fun e=>hs (Gj e);clear hs hxy;go_wp2
       go_region
       all_goals go_wp2
       all_goals go_ret
       all_goals exact Ap.no (fun h=>HN.o x y o.o p.o t.o h) q.o.drew
     .clear hxy;go_wp2
      go_region
      all_goals go_wp2
      all_goals go_ret
      all_goals exact Ap.no (fun h=>HN.o x y o.o p.o t.o h) q.o.drew
   .obtain rfl:k=f.length:=Yw
    have n:=l.o.1;rw[Zt (Zx),Zt (by have:=m.o;omega)]at n;go_wp2;go_ret;exact Ap.yes n l.o.2
 .have F:((f.length:Int)==(g.length:Int))=false:=Yu
  have K:((f.length:Int) !=(g.length:Int))=true:=Yu
  go_enter func110,ntmps110;go_wp2;go_ret;exact Ap.no (fun h=>hlen (by rw[h])) (Below.refl _ _)
theorem NV(F t f d s j c b:Int)(a p l G E D:Zk)(J I H C x v:Nat)(z o:List Kd)(u m:List Pd)(A q:List Ld)(w:Zh)(hr:BI w w.heap.size a p l z u A)(hq:BI w w.heap.size G E D o m q)(hl:z.length<=100000/\u.length<=100000/\A.length<=100000)(zC:o.length<=1048576/\m.length<=1048576/\q.length<=1048576)(h1:∀k∈z,k.B.length<=100000)(h2:∀k∈o,k.B.length<=1048576):
 Calls prog 66 #[.agg (Yi F t f d a z.length J p u.length I l A.length H),.agg (Yi s j c b G o.length C E m.length x D q.length v)] w fun e w'=>Ap ((F=s/\t=j/\f=c/\d=b)/\z=o/\u=m/\A=q) w w' e:=by
 obtain⟨W,L⟩:∃W,W=(w.alloc (.cells (Yi F t f d a z.length J p u.length I l A.length H) 40)).alloc (.cells (Yi s j c b G o.length C E m.length x D q.length v) 40):=⟨_,rfl⟩;have n:=(Bo L).1;have g:=(Bo L).2.2.1;have i:Aa W (w.heap.size+1) (Yj s j c b G o.length C E m.length x D q.length v):=by have h1:=Aa.new (w.alloc (.cells (Yi F t f d a z.length J p u.length I l A.length H) 40)) (Yj s j c b G o.length C E m.length x D q.length v) 40;rw[World.size_alloc]at h1;rw[L];exact h1
 have HX:Hid (∀X,Zz W X->Aa X w.heap.size (Yj F t f d a z.length J p u.length I l A.length H)/\Aa X (w.heap.size+1) (Yj s j c b G o.length C E m.length x D q.length v)/\Zz w X):=fun X B=>⟨Aa.below g B,Aa.below i B,n.trans (B.mono n.size)⟩;have HK:=Yx (NU a G J C z o W (hr.j n).k (hq.j n).k hl.1 zC.1 h1 h2)
 have HP:Hid (∀X,Zz W X->Calls prog 109 #[.slice p u.length I,.slice E m.length x] X fun e w'=>Ap (u=m) X w' e):=fun X B=>SK p E I x u m X (hr.j (n.trans (B.mono n.size))).p (hq.j (n.trans (B.mono n.size))).p hl.2.1 zC.2.1
 have HL:Hid (∀X,Zz W X->Calls prog 110 #[.slice l A.length H,.slice D q.length v] X fun e w'=>Ap (A=q) X w' e):=fun X B=>SL l D H v A q X (hr.j (n.trans (B.mono n.size))).l (hq.j (n.trans (B.mono n.size))).l hl.2.2 zC.2.2;obtain⟨M,_⟩:=g 0 _ rfl;obtain⟨v0,_⟩:=i 0 _ rfl;obtain⟨N,_⟩:=g 1 _ rfl;obtain⟨T,_⟩:=i 1 _ rfl;obtain⟨O,_⟩:=g 2 _ rfl;obtain⟨U,_⟩:=i 2 _ rfl;obtain⟨P,_⟩:=g 3 _ rfl
 obtain⟨V,_⟩:=i 3 _ rfl;obtain⟨Q,_⟩:=g 4 _ rfl;obtain⟨Y,_⟩:=i 4 _ rfl;obtain⟨R,_⟩:=g 5 _ rfl;obtain⟨Z,_⟩:=i 5 _ rfl;obtain⟨S,_⟩:=g 6 _ rfl;obtain⟨v6,_⟩:=i 6 _ rfl;have y:=Yx L;clear L hr hq g i;by_cases e1:F=s
 .have b1:(F==s)=true:=by simp[e1]
  have E1:=Yx e1;clear e1;by_cases e2:t=j
  .have b2:(t==j)=true:=by simp[e2]
   have E2:=Yx e2;clear e2;by_cases e3:f=c
   .have b3:(f==c)=true:=by simp[e3]
    have E3:=Yx e3;clear e3;by_cases e4:d=b
    .have b4:(d==b)=true:=by simp[e4]
     have E4:=Yx e4;clear e4;go_enter func66,ntmps66;go_upto_region 1 with fail;rw[<-y.o];clear y;go_wp2_with fail;refine Calls.mono HK.o ?_;rintro e w1 ⟨K,rfl,r,zG⟩;obtain⟨g,i,zJ⟩:=HX.o w1 zG;have zA:=Yx zG;clear M v0 N T O U P V Q Y R Z S v6;obtain⟨M,_⟩:=g 0 _ rfl;obtain⟨v0,_⟩:=i 0 _ rfl;obtain⟨N,_⟩:=g 1 _ rfl;obtain⟨T,_⟩:=i 1 _ rfl;obtain⟨O,_⟩:=g 2 _ rfl;obtain⟨U,_⟩:=i 2 _ rfl
     obtain⟨P,_⟩:=g 3 _ rfl;obtain⟨V,_⟩:=i 3 _ rfl;obtain⟨Q,_⟩:=g 4 _ rfl;obtain⟨Y,_⟩:=i 4 _ rfl;obtain⟨R,_⟩:=g 5 _ rfl;obtain⟨Z,_⟩:=i 5 _ rfl;obtain⟨S,_⟩:=g 6 _ rfl;obtain⟨v6,_⟩:=i 6 _ rfl;clear g i;cases K with
     |false=>
      have zE:z≠o:=fun e=>by have:=r.2 e;cases this
      go_wp2_with fail
      all_goals (try go_wp2)
      all_goals (try go_ret)
      all_goals exact Ap.no (fun h=>zE h.2.1) zJ
     |true=>
      have zH:=Yx (r.1 rfl);clear r;go_wp2_with fail;refine Calls.mono (HP.o w1 zA.o) ?_;rintro e w2 ⟨K,rfl,r,zM⟩;have zF:=Yx (zA.o.trans (zM.mono zA.o.size));obtain⟨g,i,zB⟩:=HX.o w2 zF.o;clear M v0 N T O U P V Q Y R Z S v6;obtain⟨M,_⟩:=g 0 _ rfl;obtain⟨v0,_⟩:=i 0 _ rfl;obtain⟨N,_⟩:=g 1 _ rfl;obtain⟨T,_⟩:=i 1 _ rfl;obtain⟨O,_⟩:=g 2 _ rfl;obtain⟨U,_⟩:=i 2 _ rfl;obtain⟨P,_⟩:=g 3 _ rfl
      obtain⟨V,_⟩:=i 3 _ rfl;obtain⟨Q,_⟩:=g 4 _ rfl;obtain⟨Y,_⟩:=i 4 _ rfl;obtain⟨R,_⟩:=g 5 _ rfl;obtain⟨Z,_⟩:=i 5 _ rfl;obtain⟨S,_⟩:=g 6 _ rfl;obtain⟨v6,_⟩:=i 6 _ rfl;clear g i;cases K with
      |false=>
       have zE:u≠m:=fun e=>by have:=r.2 e;cases this
       go_wp2_with fail
       all_goals (try go_wp2)
       all_goals (try go_ret)
       all_goals exact Ap.no (fun h=>zE h.2.2.1) zB
      |true=>have zI:=Yx (r.1 rfl);clear r;go_wp2_with fail;refine Calls.mono (HL.o w2 zF.o) ?_;rintro e w3 ⟨K,rfl,r,zN⟩;have zK:=zB.trans (zN.mono zB.size);clear M v0 N T O U P V Q Y R Z S v6;go_wp2;go_ret;exact⟨K,rfl,⟨fun h=>⟨⟨E1.o,E2.o,E3.o,E4.o⟩,zH.o,zI.o,r.1 h⟩,fun h=>r.2 h.2.2.2⟩,zK⟩
    .have b4:(d==b)=false:=by simp[e4]
     go_enter func66,ntmps66;go_upto_region 1 with fail;rw[<-y.o];clear y;go_wp2_with fail
     all_goals (try go_wp2)
     all_goals (try go_ret)
     all_goals exact Ap.no (by first|exact id|exact fun h=>e4 h.1.2.2.2) n
   .have b3:(f==c)=false:=by simp[e3]
    go_enter func66,ntmps66;go_upto_region 1 with fail;rw[<-y.o];clear y;go_wp2_with fail
    all_goals (try go_wp2)
    all_goals (try go_ret)
    all_goals exact Ap.no (by first|exact id|exact fun h=>e3 h.1.2.2.1) n
  .have b2:(t==j)=false:=by simp[e2]
   go_enter func66,ntmps66;go_upto_region 1 with fail;rw[<-y.o];clear y;go_wp2_with fail
   all_goals (try go_wp2)
   all_goals (try go_ret)
   all_goals exact Ap.no (by first|exact id|exact fun h=>e2 h.1.2.1) n
 .have b1:(F==s)=false:=by simp[e1]
  go_enter func66,ntmps66;go_upto_region 1 with fail;rw[<-y.o];clear y;go_wp2_with fail
  all_goals (try go_wp2)
  all_goals (try go_ret)
  all_goals exact Ap.no (by first|exact id|exact fun h=>e1 h.1.1) n
section
open Go.RowKit
def Bs:Obj->Bool
 |.cells _ t _=> !(t==9||t==183||t==163||t==164)
 |_=>true
structure Bt (B:Nat) (W W':Zh):Prop where
 size:W.heap.size<=W'.heap.size
 same:∀b o,B<=b->W.heap[b]?=some o->Bs o=true->W'.heap[b]?=some o
theorem Bt.refl(B:Nat)(W:Zh):Bt B W W:=⟨Zx,fun _ _ _ h _=>h⟩
theorem Bt.trans{Y Z:Zh}(h:Bt B X Y)(k:Bt B Y Z):Bt B X Z:=⟨Zm h.size k.size,fun b o a d c=>k.same b o a (h.same b o a d c) c⟩
theorem Bt.mono(h:Bt B W a)(c:B<=B'):Bt B' W a:=⟨h.size,fun b o d=>h.same b o Yw⟩
def Cu(B:Nat)(J:Nat->Zh->Prop):Prop:=
 ∀k W W' row,J k W->W.grownBy W' row->(∀r,row=some r->B<=r/\∃o,W.heap[r]?=some o/\Bs o=true)->J k W'
theorem Cu.mono{J:Nat->Zh->Prop}(h:Cu B J)(c:B<=B'):Cu B' J:=
 fun k W b row f d a=>h k W b row f d (fun r e=>⟨Zm c (a r e).1,(a r e).2⟩)
theorem Cu.putObj{J:Nat->Zh->Prop}(h:Cu B J){l:Nat}{o:Obj}(a:Obj)(c:J k W)(b:B<=l)(d:W.heap[l]?=some o)(f:Bs o=true):J k (W.putObj l a):=
 h k W _ (some l) c (grownBy_putObj' W l a) (fun r e=>by cases e;exact⟨b,o,d,f⟩)
theorem Cu.alloc{J:Nat->Zh->Prop}(h:Cu B J)(o:Obj)(b:J k W):J k (W.alloc o):=
 h k W _ none b ⟨rfl,rfl,rfl,Yv,fun i a _=>Below.heap_alloc W o i a⟩ (fun r e=>by cases e)
def GB(P:Program)(gf:Nat)(ar:Nat->Array Value)(xs:Zl)(n0:Nat)(w:Zh):Prop:=
 ∀(l:Nat) (J Jx:Nat->Zh->Prop) (W:Zh),Zz w W->Cu W.heap.size J->Cu W.heap.size Jx->
  (∀k W1 s,xs[k]?=some s->J k W1->W.heap.size<=W1.heap.size->∀m,YieldAt Fence.wide m P l #[.string s] W1 fun e W'=>
    Bt W.heap.size W1 W'/\((e=.returned (.bool true)/\J (k+1) W'/\Below n0 W1 W')\/(e=.returned (.bool false)/\Jx (k+1) W')))->
  J 0 W->∀m,CallsIn Fence.wide m P gf (ar l) W fun e W'=>(∃v,e=.returned v)/\(J xs.length W'\/∃k,Jx k W')
def Aay(n0 B:Nat)(I:Nat->Zh->Prop)(Ix:Nat->Zh->Prop)(k:Nat)(W:Zh):Exit->Act->Zh->Prop
 |.normal,_,W'=>Bt B W W'/\I (k+1) W'/\Below n0 W W'
 |.ret,_,W'=>Bt B W W'/\Ix (k+1) W'
 |_,_,_=>False
theorem Ji{P:Program}{g:Operand}{ps:Array Tmp}{assign body:Code}{Q:Exit->Act->Zh->Prop}{a:Act}{gf:Nat}{pre lb:Array Value}(hg:a.eval g=.func (.func gf) pre lb)(eg:∀args w,(callFunc gf args).run P w=.ok (.enter gf args) w){xs:Zl}{n0:Nat}(zA:GB P gf (fun l=>pre++ #[.func (.yield l) #[] #[]]++lb) xs n0 w)(zU:n0<=w.heap.size)(zP:ps.size=1)(I Y:Nat->Zh->Prop)(G:Cu w.heap.size I)(R:Cu w.heap.size Y)(h0:I 0 w)(a1:Zi->Act)(C:∀(l m:Nat) (s:Zi) (W:Zh) (K:Act->Zh->Prop),K (a1 s) W->
   assign.wpIn (Fence.wide.inRound l) m P (Exit.then K (fun _ _ _=>False)) {tmps:=(ps.zip #[.string s]).foldl (fun t (p,v)=>t.setIfInBounds p v) a.tmps,defers:=[]} W)(M:∀(l m k:Nat) (s:Zi) (W:Zh),xs[k]?=some s->I k W->w.heap.size+2<=W.heap.size->body.wpIn (Fence.wide.inRound l) m P (Aay n0 w.heap.size I Y k W) (a1 s) W)(N:∀(D:Nat) (W:Zh),w.heap.size<=D->I xs.length W->W.heap[D]?=some (.deferred (some []))->Q .normal {a with defers:={target:=.collected D,args:= #[]}::a.defers} W)(O:∀(D k:Nat) (W:Zh),w.heap.size<=D->Y k W->W.heap[D]?=some (.deferred (some []))->Code.ret.wpIn Fence.wide n P Q {a with defers:={target:=.collected D,args:= #[]}::a.defers} W):
 (Code.rangeFunc g ps assign body).wpIn Fence.wide n P Q a w:=by
 refine wpIn_rangeFunc ?_;intro fn zK;obtain⟨c,d⟩:∃c:LoopState->Option Code->Loop,c=fun st pe=>{state:=st,pending:=pe,fn,tmps:=a.tmps,params:=ps,assign,body,defers:=w.heap.size}:=⟨_,rfl⟩;obtain⟨V,H⟩:∃V,V=(w.alloc (.deferred (some []))).alloc (.loop (c .ready none)):=⟨_,rfl⟩;have zT:V.heap.size=w.heap.size+2:=by rw[H];simp
 have zH:V.heap[w.heap.size+1]?=some (.loop (c .ready none)):=by have:=World.alloc_heap_new (w.alloc (.deferred (some []))) (.loop (c .ready none));rw[World.size_alloc]at this;rw[H];exact this
 have zG:V.heap[w.heap.size]?=some (.deferred (some [])):=by rw[H];exact(Below.heap_alloc _ _ _ Yv).trans (World.alloc_heap_new w _)
 have zF:Below w.heap.size w V:=by rw[H];exact((Below.refl _ w).alloc (Zx) _).alloc Yv _
 have zE:I 0 V:=by rw[H];exact G.alloc _ (G.alloc _ h0)
 refine⟨w.heap.size+1,[{target:=.collected w.heap.size,args:= #[]}],V,{target:=.fn (.func gf) lb,args:=pre++ #[.func (.yield (w.heap.size+1)) #[] #[]]},V,gf,
  pre++ #[.func (.yield (w.heap.size+1)) #[] #[]]++lb,V,?_,?_,fun _ _=>trivial,?_,fun h=>by simp[Fence.wide]at h,?_⟩
 .rw[H,d];exact run_enterLoop_outer _ _ _ _ _
 .simp only[resolve,hg];simp[go_sem]
 .simp[invoke,go_sem,eg]
 .have zB:∀{A:Zh} {row:Option Nat},(∀r,row=some r->V.heap.size<=r/\∃o:Obj,A.heap[r]?=some o/\Bs o=true)->(∀r,row=some r->w.heap.size<=r/\∃o:Obj,A.heap[r]?=some o/\Bs o=true):=
   fun j r e=>⟨by have:=(j r e).1;omega,(j r e).2⟩
  have f:∀{A B:Zh} {row:Option Nat} {k:Nat} {o:Obj},A.grownBy B row->(∀r,row=some r->V.heap.size<=r/\∃o:Obj,A.heap[r]?=some o/\Bs o=true)->k<V.heap.size->A.heap[k]?=some o->B.heap[k]?=some o:=
   fun {A B row k o} q j J Z=>(q.block k (Array.getElem?_eq_some_iff.1 Z).1 (fun e=>by have:=(j k e.symm).1;omega)).trans Z
  refine(zA (w.heap.size+1)
   (fun k W=>I k W/\W.heap[w.heap.size+1]?=some (.loop (c .ready none))/\W.heap[w.heap.size]?=some (.deferred (some [])))
   (fun k W=>Y k W/\W.heap[w.heap.size+1]?=some (.loop (c .done (some .ret)))/\W.heap[w.heap.size]?=some (.deferred (some [])))
   V zF
   (fun s A B row F q j=>⟨G s A B row F.1 q (zB j),f q j Yw F.2.1,f q j Yw F.2.2⟩)
   (fun s A B row F q j=>⟨R s A B row F.1 q (zB j),f q j Yw F.2.1,f q j Yw F.2.2⟩)
   ?_ ⟨zE,zH,zG⟩ _).mono ?_
  .rintro k W s zR ⟨E,z,J⟩ zS m;have zO:w.heap.size+1<W.heap.size:=(Array.getElem?_eq_some_iff.1 z).1;have hy:=run_yield (P:=P) (args:= #[.string s]) z (by rw[d];exact zP.symm);rw[d]at hy;refine⟨fn,_,assign,body,hy,roundIn_of_wpIn zK (C _ _ s W _ ?_)⟩;clear hy;refine⟨_,run_beginRound z (by rw[d]),?_⟩
   have zN:(W.putObj (w.heap.size+1) (.loop {c .ready none with state:=.busy})).heap[w.heap.size+1]?=some (.loop {c .ready none with state:=.busy}):=World.putObj_heap_same zO;have zM:(W.putObj (w.heap.size+1) (.loop {c .ready none with state:=.busy})).heap[w.heap.size]?=some (.deferred (some [])):=(World.putObj_heap_other Yw).trans J
   refine wpIn_mono (M _ _ k s _ zR (G.putObj _ E Yw z rfl) (by rw[World.putObj_size];omega)) ?_;have fin:∀(jump:Option Code) (u:Zh),Bt w.heap.size (W.putObj (w.heap.size+1) (.loop {c .ready none with state:=.busy})) u->
    (Instr.endRound (w.heap.size+1) jump).run P u=.ok (.bool jump.isNone) (u.putObj (w.heap.size+1) (.loop (c (if jump.isNone then .ready else .done) jump)))/\
    u.heap[w.heap.size+1]?=some (.loop {c .ready none with state:=.busy})/\
    (u.putObj (w.heap.size+1) (.loop (c (if jump.isNone then .ready else .done) jump))).heap[w.heap.size+1]?=some (.loop (c (if jump.isNone then .ready else .done) jump))/\
    (u.putObj (w.heap.size+1) (.loop (c (if jump.isNone then .ready else .done) jump))).heap[w.heap.size]?=some (.deferred (some []))/\
    Bt V.heap.size W (u.putObj (w.heap.size+1) (.loop (c (if jump.isNone then .ready else .done) jump))):=fun jump u x=>by
    have y:=x.same _ _ Yw zN rfl;have:=run_endRound (P:=P) jump y;have zC:Bt V.heap.size W (u.putObj (w.heap.size+1) (.loop (c (if jump.isNone then .ready else .done) jump))):=by refine⟨by have:=x.size;rw[World.putObj_size]at this |-;exact this,fun b o hb Z hn=> ?_⟩;rw[World.putObj_heap_other Yw];exact x.same b o Yw ((World.putObj_heap_other Yw).trans Z) hn
    refine⟨?_,y,World.putObj_heap_same (Array.getElem?_eq_some_iff.1 y).1,(World.putObj_heap_other Yw).trans (x.same _ _ (Zx) zM rfl),zC⟩;rw[d]at this |-;exact this
   rintro e a3 u L;have zI:∀o,Below n0 W (W.putObj (w.heap.size+1) o):=fun o=>⟨rfl,rfl,rfl,Yv,fun i E=>World.putObj_heap_other Yw⟩;cases e with
   |normal=>obtain⟨x,S,zJ⟩:=L;obtain⟨j,y,X,T,U⟩:=fin none u x;exact⟨_,_,j,U,.inl ⟨rfl,⟨G.putObj _ S Yw y rfl,X,T⟩,((zI _).trans zJ).trans ⟨rfl,rfl,rfl,Yv,fun i E=>World.putObj_heap_other Yw⟩⟩⟩
   |ret=>obtain⟨x,S⟩:=L;obtain⟨j,y,X,T,U⟩:=fin (some .ret) u x;exact⟨_,_,j,U,.inr ⟨rfl,R.putObj _ S Yw y rfl,X,T⟩⟩
   |exit id=>exact L.elim
   |goto t=>exact L.elim
   |panic ch=>exact L.elim
   |outgrown=>exact L.elim
  .rintro e W2 ⟨⟨v,rfl⟩,(⟨E,z,J⟩|⟨k,E,z,J⟩)⟩
   .exact⟨none,_,by have:=run_endLoop (P:=P) z (by rw[d];simp);rw[d]at this;exact this,N _ _ (Zx) (G.putObj _ E Yw z rfl) ((World.putObj_heap_other Yw).trans J)⟩
   .exact⟨some .ret,_,by have:=run_endLoop (P:=P) z (by rw[d];simp);rw[d]at this;exact this,O _ k _ (Zx) (R.putObj _ E Yw z rfl) ((World.putObj_heap_other Yw).trans J)⟩
end
section
open Go.RowKit
attribute [local go_sem] Oper.semAt_some
theorem UN(a:Zk)(cap:Nat)(c:Zl)(g:Nat)(w:Zh)(f:Ad w g a c)(o:g<=w.heap.size)(D:c.length<=maxLen):
 GB prog 105 (fun l=> #[.agg #[.slice a c.length cap],.func (.yield l) #[] #[]]) c g w:=by
 intro l J H W r z E t y m;unfold maxLen at D;have d:=f.below (r.mono o);refine callsIn_of_wp func105 rfl trivial ?_ rfl;simp only[ntmps105,List.size_toArray,List.length_cons,List.length_nil,Nat.reduceAdd,Nat.reduceSub,Array.replicate_succ,Array.replicate_zero,List.push_toArray,List.append_toArray,List.nil_append,List.cons_append]
 gi_wp2
 gi_loopw [9] (fun i wr=>∃k:Nat,k<=c.length/\i=Zg k/\J k wr/\Below g W wr/\W.heap.size<=wr.heap.size)
  (fun i _=>c.length -(intOf i).toNat)
 case atStart=>exact⟨0,Nat.zero_le _,rfl,z.alloc _ y,(Below.refl _ _).alloc (Zm o r.size) _,Yv⟩
 case round=>
  obtain⟨k,M,rfl,n,p,q⟩:=hrel;by_cases hlt:k<c.length
  .obtain⟨b,G,C,L,u⟩:=(d.below p).at hlt;subst C;have F:=u k c[k] (Zv hlt);obtain⟨K,tmps,assign,body,N,B⟩:=t k wr c[k] (Zv hlt) n q (m -1);clear u f d t;generalize c[k]=s at *
   gi_wp2
   refine⟨fun h=>by simp[Fence.wide]at h,B.mono ?_⟩;rintro e I ⟨A,(⟨rfl,v,x⟩|⟨rfl,j⟩)⟩
   .gi_wp2
    go_roundw
    case rel=>exact⟨k+1,Yw,Yv,v,p.trans x,Zm q A.size⟩
    case measure=>simp[intOf];omega
   .gi_wp2
    refine bodyPost_ret (results_none rfl _ _ _) rfl ?_;exact⟨⟨_,rfl⟩,.inr ⟨_,j⟩⟩
  .obtain rfl:k=c.length:=Yw
   gi_wp2
   go_end0
   exact⟨⟨_,rfl⟩,.inl n⟩
theorem UO(v:Value)(a:Zk)(cap:Nat)(c:Zl)(g:Nat)(w:Zh)(f:Ad w g a c)(o:g<=w.heap.size)(E:c.length<=maxLen):
 GB prog 106 (fun l=> #[.agg #[v,.slice a c.length cap],.func (.yield l) #[] #[]]) c g w:=by
 intro l J I W r A F t z m;unfold maxLen at E;have d:=f.below (r.mono o);refine callsIn_of_wp func106 rfl trivial ?_ rfl;simp only[ntmps106,List.size_toArray,List.length_cons,List.length_nil,Nat.reduceAdd,Nat.reduceSub,Array.replicate_succ,Array.replicate_zero,List.push_toArray,List.append_toArray,List.nil_append,List.cons_append]
 gi_wp2
 gi_loopw [9] (fun i wr=>∃k:Nat,k<=c.length/\i=Zg k/\J k wr/\Below g W wr/\W.heap.size<=wr.heap.size)
  (fun i _=>c.length -(intOf i).toNat)
 case atStart=>exact⟨0,Nat.zero_le _,rfl,A.alloc _ z,(Below.refl _ _).alloc (Zm o r.size) _,Yv⟩
 case round=>
  obtain⟨k,N,rfl,n,p,q⟩:=hrel;by_cases hlt:k<c.length
  .obtain⟨b,H,D,M,u⟩:=(d.below p).at hlt;subst D;have G:=u k c[k] (Zv hlt);obtain⟨L,tmps,assign,body,O,C⟩:=t k wr c[k] (Zv hlt) n q (m -1);clear u f d t;generalize c[k]=s at *
   gi_wp2
   refine⟨fun h=>by simp[Fence.wide]at h,C.mono ?_⟩;rintro e K ⟨B,(⟨rfl,x,y⟩|⟨rfl,j⟩)⟩
   .gi_wp2
    go_roundw
    case rel=>exact⟨k+1,Yw,Yv,x,p.trans y,Zm q B.size⟩
    case measure=>simp[intOf];omega
   .gi_wp2
    refine bodyPost_ret (results_none rfl _ _ _) rfl ?_;exact⟨⟨_,rfl⟩,.inr ⟨_,j⟩⟩
  .obtain rfl:k=c.length:=Yw
   gi_wp2
   go_end0
   exact⟨⟨_,rfl⟩,.inl n⟩
end
end Go.Proofs.YtcankpdbabaacaaGreatDoor
