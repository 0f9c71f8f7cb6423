import Derived.Test.YtoglnpagihdhpaaGreatDoorX06
import Derived.Test.YtoglnpagihdhpaaGreatDoorX04
set_option maxRecDepth 100000
set_option maxHeartbeats 16000000
namespace Go.Proofs.YtoglnpagihdhpaaGreatDoor
open ChangeShapes WideShapes ChangeAt RowKit _root_.Go.Proofs.Tryz
theorem Se(A now c a:Int)(T:Value)(p l:Zk)(z v:Nat)(d:List Pd)(g:List Ld)(s:Zi)(w:Zh)(I:AO w w.heap.size p d)(H:AM w w.heap.size l g)(zB:d.length<=1000)(zA:g.length<=1000):
 Calls prog 102 #[.agg #[Zg A,Zg now,Zg c,Zg a,T,.slice p d.length z,.slice l g.length v],.string s] w fun e Z=>Aq ((∃p∈d,p.sum=s)\/∃l∈g,l.sum=s) w Z e:=by
 have M:=Yw I;have K:=Yw H;have J:=AN.new w A now c a T (.slice p d.length z) (.slice l g.length v) 30;have n:Below w.heap.size w (w.alloc (.cells #[Zg A,Zg now,Zg c,Zg a,T,.slice p d.length z,.slice l g.length v] 30)):=Zy;obtain⟨W,D⟩:=Af (w.alloc (.cells #[Zg A,Zg now,Zg c,Zg a,T,.slice p d.length z,.slice l g.length v] 30));rw[<-D]at J n;have G:=Yw D;clear I H D
 obtain⟨S,U,V,X,Y,q5,q6,q7⟩:=J;clear S U V X Y;go_enter func102,ntmps102;go_upto_region 1 with fail;rw[<-G.o];clear G;go_wp2
 go_loop [5] (fun i=>∃k:Nat,k<=d.length/\i=Zg k/\Hid (∀j x,j<k->d[j]?=some x->¬x.sum=s)) (fun i=>d.length -(intOf i).toNat)
 case atStart=>exact⟨0,Nat.zero_le _,rfl,(fun j x h=>by omega)⟩
 case round=>
  obtain⟨k,R,rfl,f⟩:=hrel;by_cases hlt:k<d.length
  .obtain⟨b,N,E,Q,r⟩:=(AO.below M.o n).at hlt;subst E;have o:Hid (d[k]?=some d[k]):=Zv hlt;obtain⟨O,P⟩:=r k _ o.o;clear r;generalize d[k]=x at *
   by_cases h:x.sum=s
   .have F:(x.sum.toList==s.toList)=true:=by rw[h];simp
    have C:=Yw h;clear h;go_wp2;refine bodyPost_ret (results_tmp rfl _ _ _) rfl ?_;exact Aq.yes (.inl ⟨x,Zs o.o,C.o⟩) n
   .have F:(x.sum.toList==s.toList)=false:=Bz h;have B:Hid (∀j y,j<k+1->d[j]?=some y->¬y.sum=s):=by
     intro j y t m;rcases Nat.lt_or_ge j k with q|q
     .exact f.o j y q m
     .obtain rfl:j=k:=Yv
      rw[o.o]at m;cases m;exact h
    clear h;go_wp2;exact⟨⟨k+1,Yv,Yn,B⟩,Ys⟩
  .have L:Hid (¬∃p∈d,p.sum=s):=by rintro⟨y,m,u⟩;obtain⟨j,t,rfl⟩:=List.getElem_of_mem m;exact f.o j _ Yv (Zv t) u
   clear f;go_wp2
   go_loop [6] (fun i=>∃k:Nat,k<=g.length/\i=Zg k/\Hid (∀j x,j<k->g[j]?=some x->¬x.sum=s)) (fun i=>g.length -(intOf i).toNat)
   case atStart=>exact⟨0,Nat.zero_le _,rfl,(fun j x h=>by omega)⟩
   case round=>
    obtain⟨k,R,rfl,f⟩:=hrel;by_cases hlt:k<g.length
    .obtain⟨b,N,E,Q,r⟩:=(AM.below K.o n).at hlt;subst E;have o:Hid (g[k]?=some g[k]):=Zv hlt;obtain⟨O,P,c2⟩:=r k _ o.o;clear r;generalize g[k]=x at *
     by_cases h:x.sum=s
     .have F:(x.sum.toList==s.toList)=true:=by rw[h];simp
      have C:=Yw h;clear h;go_wp2;refine bodyPost_ret (results_tmp rfl _ _ _) rfl ?_;exact Aq.yes (.inr ⟨x,Zs o.o,C.o⟩) n
     .have F:(x.sum.toList==s.toList)=false:=Bz h;have B:Hid (∀j y,j<k+1->g[j]?=some y->¬y.sum=s):=by
       intro j y t m;rcases Nat.lt_or_ge j k with q|q
       .exact f.o j y q m
       .obtain rfl:j=k:=Yv
        rw[o.o]at m;cases m;exact h
      clear h;go_wp2;exact⟨⟨k+1,Yv,Yn,B⟩,Ys⟩
    .go_wp2;refine bodyPost_ret (results_tmp rfl _ _ _) rfl ?_;refine Aq.no (fun e=> ?_) n;rcases e with e|⟨y,m,u⟩
     .exact absurd e L.o
     .obtain⟨j,t,rfl⟩:=List.getElem_of_mem m;exact absurd u (f.o j _ Yv (Zv t))
theorem Dr.low{w:Zh}{c d m:Nat}{O P L:Value}{l now f a:Int}{i:List Kd}{k:List Pd}{j:List Ld}(g:Dr w c d m O P L l now f a i k j):∀b∈vB d m O P L,c<=b:=by
 intro b h;unfold vB at h;simp only[List.mem_cons,List.mem_append,Option.mem_toList]at h;rcases h with rfl|rfl|e|e|e
 .exact g.bd
 .exact g.bm
 .exact(Ac g.ord e).1
 .exact(Ac g.ci e).1
 .exact(Ac g.ck e).1
theorem JQ(a b:Zk)(c d:Nat)(f h:Zl)(w:Zh)(N:Ad w w.heap.size a f)(M:Ad w w.heap.size b h)(ha:a=none->f.length=0/\c=0)(hb:b=none->h.length=0/\d=0)(hl:f.length<=1048576)(zA:h.length<=1048576):
 Calls prog 13 #[.agg #[.slice a f.length c,.slice b h.length d]] w fun e S=>∃g cap,e=.returned (Yz g (f++h).length cap)/\S.ownsRow w.heap.size 9 1 (Yz g (f++h).length cap) (f++h).length ((f++h).map Value.string)/\Zz w S:=by
 obtain⟨O,L,y,z,A⟩:=info_parts Cq;obtain⟨W,m⟩:=Af (w.alloc (.cells #[.slice a f.length c,.slice b h.length d] 47));have o:=(AB m).1;have zW:=(AB m).2.1;have F:=(AB m).2.2;have B:Below W.heap.size W (W.alloc (.cells #[] 9)):=Zy;have Q:(W.alloc (.cells #[] 9)).drew.ownsRow (w.heap.size+1) 9 1 (Yz (w.heap.size+1) 0 0) 0 (([]:Zl).map Value.string):=by have K:=World.ownsRow_lit (base:=w.heap.size+1) (e:=9) (size:=1) W #[] 0 Yv Yo rfl;rw[zW]at K;exact K
 have R:=(Ad.below N (o.trans (B.drew.mono o.size))).ay;have H:=Aa.below F B;obtain⟨y0,y1⟩:=Aa.c2 F 0 1;obtain⟨z0,z1⟩:=Aa.c2 H 0 1;have I:=Yw m;have J:=Yw (Zn H (o.trans (B.mono o.size)));have X:Hid (Ad w w.heap.size b h):=M;clear m F H N M;go_enter func13,ntmps13;go_upto_region 1 with fail;rw[<-I.o];clear I
 go_region_law (first
  |(refine Ay (W.alloc (.cells #[] 9)).drew rfl (.tmp 3) (.tmp 5) 23 rfl (w.heap.size+1) 9 O Zc 16 underlying23 L y z A rfl (w.heap.size+1) 0 0 [] rfl Q a f.length c f rfl rfl ha R Yo Yv Ym ?_;intro D q E l j r t;simp only[Nat.zero_add,List.nil_append]at l;have G:Aa E w.heap.size [.slice a f.length c,.slice b h.length d]:=(Aa.same J.o.1 (j.block _ Ym Ym));have n:Below w.heap.size w E:=(J.o.2.drew.grown j Ym (fun k C=>by cases C;omega));have Y:=(G 0 _ rfl).1;have Z:=(G 1 _ rfl).1;have r6:=(Ad.below X.o n).ay;have U:=j.size;simp at U)
  |(refine Ay E rfl (.tmp 6) (.tmp 8) 23 rfl (w.heap.size+1) 9 O Zc 16 underlying23 L y z A rfl D f.length q f rfl l b h.length d h rfl rfl hb r6 Yo Yv Yv ?_;intro P i T x v s u))
 all_goals
  have l6:w.heap.size+1<=D:=(l.lt D rfl).1;have V:Hid (T.ownsRow w.heap.size 9 1 (Yz P (f.length+h.length) i) (f.length+h.length) ((f++h).map Value.string)/\Zz w T):=⟨x.mono Yv,n.grown v n.size (fun k C=>by cases C;omega)⟩;clear l j r t G n Y Z r6 U x v s u Q R y0 y1 z0 z1;go_wp2;go_ret;rw[List.length_append];exact⟨P,i,rfl,V.o⟩
structure TV (w:Zh) (lo g:Nat) (rs:Zj) (ks:List Kd):Prop where
 len:rs.length=ks.length
 ak:w.ownsRow lo 66 4 (.slice (some ⟨g,0,none⟩) ks.length ks.length) ks.length (Ab kC (ks.zip rs))
 B:∀(i:Nat) (k:Kd) (r:Value),ks[i]?=some k->rs[i]?=some r->w.ownsRow (g+1) 9 1 r k.B.length (k.B.map Value.string)
 y:∀r∈rs,∃q n c,r=.slice (some ⟨q,0,none⟩) n c
 inc:(rs.filterMap Value.ownBlock).Pairwise (·<·)
def Dk(ks:List Kd)(at_:Int)(r:Int):Prop:=
 (r= -1/\∀y∈ks,¬y.born<at_)\/∃(i:Nat) (k:Kd),r=i/\ks[i]?=some k/\k.born<at_/\∀y∈ks,y.born<at_->y.born<=k.born
theorem Dk.snoc{e:List Kd}{d r:Int}{x:Kd}(h:Dk e d r):(¬x.born<d->Dk (e++[x]) d r)/\(x.born<d->r= -1->Dk (e++[x]) d e.length)/\(∀(i:Nat) (k:Kd),x.born<d->r=i->e[i]?=some k->(k.born<x.born->Dk (e++[x]) d e.length)/\(¬k.born<x.born->Dk (e++[x]) d r)):=by
 refine⟨fun g=> ?_,fun g q=> ?_,fun i k g q n=>⟨fun o=> ?_,fun o=> ?_⟩⟩
 .rcases h with⟨f,c⟩|⟨i,k,f,c,m,l⟩
  .refine .inl ⟨f,fun y a=> ?_⟩;rcases List.mem_append.1 a with a|a
   .exact c y a
   .simp at a;rw[a];exact g
  .refine .inr ⟨i,k,f,?_,m,fun y a b=> ?_⟩
   .rw[List.getElem?_append_left (Zw c).1];exact c
   .rcases List.mem_append.1 a with a|a
    .exact l y a b
    .simp at a;rw[a]at b;exact absurd b g
 .rcases h with⟨_,c⟩|⟨i,k,f,_⟩
  .refine .inr ⟨e.length,x,rfl,Yu,g,fun y a b=> ?_⟩;rcases List.mem_append.1 a with a|a
   .exact absurd b (c y a)
   .simp at a;rw[a];omega
  .omega
 .rcases h with⟨f,_⟩|⟨j,s,f,c,m,l⟩
  .omega
  .obtain rfl:i=j:=Yv
   rw[n]at c;cases c;refine .inr ⟨e.length,x,rfl,Yu,g,fun y a b=> ?_⟩;rcases List.mem_append.1 a with a|a
   .have:=l y a b;omega
   .simp at a;rw[a];omega
 .rcases h with⟨f,_⟩|⟨j,s,f,c,m,l⟩
  .omega
  .obtain rfl:i=j:=Yv
   rw[n]at c;cases c;refine .inr ⟨i,k,f,?_,m,fun y a b=> ?_⟩
   .rw[List.getElem?_append_left (Zw n).1];exact n
   .rcases List.mem_append.1 a with a|a
    .exact l y a b
    .simp at a;rw[a];omega
theorem Sf(I now g d j:Int)(a:Zk)(F:Nat)(P L:Value)(c:List Kd)(w:Zh)(q:Bu w w.heap.size a c)(hl:c.length<=1000):
 Calls prog 151 #[.agg #[Zg I,Zg now,Zg g,Zg d,.slice a c.length F,P,L],Zg j] w fun e w'=>∃r:Int,e=.returned (Zg r)/\Dk c j r/\Zz w w':=by
 have V:=Yw q;have n:=AN.new w I now g d (.slice a c.length F) P L 30;have D:Below w.heap.size w (w.alloc (.cells #[Zg I,Zg now,Zg g,Zg d,.slice a c.length F,P,L] 30)):=Zy;obtain⟨W,Q⟩:=Af (w.alloc (.cells #[Zg I,Zg now,Zg g,Zg d,.slice a c.length F,P,L] 30));rw[<-Q]at n D;have T:=Yw Q;have HX:=Yw n;have zA:w.heap.size<W.heap.size:=n.2.2.2.2.2.2.2;clear q Q n;go_enter func151,ntmps151
 go_upto_region 1 with fail;rw[<-T.o];clear T;go_wp2
 go_loopw [5,6] (fun v i wr=>∃(k:Nat) (r:Int),k<=c.length/\i=Zg k/\v=Zg r/\Hid (Dk (c.take k) j r/\Zz W wr)) (fun _ i _=>c.length -(intOf i).toNat)
 case atStart=>exact⟨0, -1,Nat.zero_le _,rfl,rfl,.inl ⟨rfl,(fun y o=>by simp at o)⟩,Ae⟩
 case round=>
  obtain⟨k,r,hk,rfl,rfl,z⟩:=hrel;have f:=z.o.2;have u:=f.size;have J:Below w.heap.size w wr:=D.trans (f.mono D.size);obtain⟨_,_,_,_,B,_,_,_⟩:=AN.below HX.o f;by_cases hlt:k<c.length
  .obtain⟨b,zB,ha,hb,R⟩:=(Bu.below V.o J).at hlt;subst ha;have HG:Hid (c[k]?=some c[k]):=Zv hlt;obtain⟨_,A,_⟩:=R k _ HG.o;have K:b<wr.heap.size:=Yv
   have M:(c.take k).length=k:=by rw[List.length_take];omega
   have E:Hid (c.take (k+1)=c.take k++[c[k]]):=Zu hlt;have H:=Aw.cell B (show w.heap.size<wr.heap.size by omega);have G:=Aw.cell A K;have t:=Aw.ne wr;have S:=Yw R;have HN:=Yw (Dk.snoc (x:=c[k]) z.o.1);clear R;generalize c[k]=x at *
   by_cases n:x.born<j
   .have d1:decide (x.born<j)=true:=by simpa using n
    by_cases hr:r<0
    .have d2:decide (r<0)=true:=by simpa using hr
     have Y:r= -1:=by
      rcases z.o.1 with⟨h,_⟩|⟨i,_,h,_⟩
      .exact h
      .omega
     have l:=HN.o.2.1 n Y;rw[M]at l;have s:Hid (Dk (c.take k++[x]) j (k:Int)):=l;clear l;clear HN;go_wp2;refine Ax Yr Yr ?_
     repeat (go_big_quiet_step (fail))
     refine wpQuiet_nil ?_;intro m;clear H G t A B;go_wp2;exact⟨⟨k+1,k,Yv,Yn,rfl,⟨by rw[E.o];exact s.o,f.trans (m.h.mono u)⟩⟩,Ys⟩
    .have d2:decide (r<0)=false:=by simpa using hr
     obtain⟨i,y,rfl,o,_⟩:∃(i:Nat) (y:Kd),r=i/\(c.take k)[i]?=some y/\True:=by
      rcases z.o.1 with⟨h,_⟩|⟨i,y,h1,h2,_⟩
      .omega
      .exact⟨i,y,h1,h2,trivial⟩
     have X:i<k:=by have:=(Zw o).1;omega
     have N:c[i]?=some y:=by rw[List.getElem?_take_of_lt X]at o;exact o
     obtain⟨_,O,_⟩:=S.o i y N;have U:=Aw.cell O K;have l:=HN.o.2.2 i y n rfl o;rw[M]at l;have s:=Yw l;clear l;clear HN o N S;by_cases hg:y.born<x.born
     .have d3:decide (y.born<x.born)=true:=by simpa using hg
      go_wp2;refine Ax Yr Yr ?_
      repeat (go_big_quiet_step (fail))
      refine wpQuiet_nil ?_;intro m;clear H G U t A B O;go_wp2;exact⟨⟨k+1,k,Yv,Yn,rfl,⟨by rw[E.o];exact s.o.1 hg,f.trans (m.h.mono u)⟩⟩,Ys⟩
     .have d3:decide (y.born<x.born)=false:=by simpa using hg
      go_wp2;refine Ax Yr Yr ?_
      repeat (go_big_quiet_step (fail))
      refine wpQuiet_nil ?_;intro m;clear H G U t A B O;go_wp2;exact⟨⟨k+1,i,Yv,Yn,rfl,⟨by rw[E.o];exact s.o.2 hg,f.trans (m.h.mono u)⟩⟩,Ys⟩
   .have d1:decide (x.born<j)=false:=by simpa using n
    have s:Hid (Dk (c.take k++[x]) j r):=HN.o.1 n;clear HN;go_wp2;refine Ax Yr Yr ?_
    repeat (go_big_quiet_step (fail))
    refine wpQuiet_nil ?_;intro m;clear H G t A B;go_wp2;exact⟨⟨k+1,r,Yv,Yn,rfl,⟨by rw[E.o];exact s.o,f.trans (m.h.mono u)⟩⟩,Ys⟩
  .have C:=z.o.1;rw[Zt Yv]at C;have Z:Hid (Dk c j r):=C;clear C;go_wp2;go_ret;exact⟨r,rfl,Z.o,J⟩
end Go.Proofs.YtoglnpagihdhpaaGreatDoor
