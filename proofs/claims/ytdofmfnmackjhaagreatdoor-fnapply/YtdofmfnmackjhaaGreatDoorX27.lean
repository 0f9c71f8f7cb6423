import Derived.Test.YtdofmfnmackjhaaGreatDoorX24
import Derived.Test.YtdofmfnmackjhaaGreatDoorX16
import Derived.Test.YtdofmfnmackjhaaGreatDoorX13
set_option maxRecDepth 100000
set_option maxHeartbeats 16000000
namespace Go.Proofs.YtdofmfnmackjhaaGreatDoor
open ChangeShapes WideShapes ChangeAt RowKit _root_.Go.Proofs.Tryz List World Value
variable{w X:Zh}{c B b:Nat}
structure Vd where
 wd:Int
 lim:Int
 ss:Zl
 E:Zl
 O:Int
 D:Int
 F:Int
 C:Int
 ks:List Kd
 ps:List Pd
 ls:List Ld
 M:Int
 H:Zl
 ms:Zl
 U:Int
 V:Int
 ro:Int
structure Va where
 i:Zk
 sc:Nat
 Y:Zk
 Z:Nat
 W:Zk
 X:Nat
 N:Zk
 Q:Nat
 L:Zk
 P:Nat
 qa:Zk
 qc:Nat
 y:Zk
 mc:Nat
abbrev Xq(v:Vd)(a:Va):Array Value:=#[.int .i64 v.wd,.int .i64 v.lim,.slice a.i v.ss.length a.sc,.slice a.Y v.E.length a.Z,.int .i64 v.O,.int .i64 v.D,.int .i64 v.F,.int .i64 v.C,.slice a.W v.ks.length a.X,.slice a.N v.ps.length a.Q,.slice a.L v.ls.length a.P,.int .i64 v.M,.slice a.qa v.H.length a.qc,.slice a.y v.ms.length a.mc,.int .i64 v.U,.int .i64 v.V,.int .i64 v.ro]
abbrev Xn(v:Vd)(a:Va):List Value:=[.int .i64 v.wd,.int .i64 v.lim,.slice a.i v.ss.length a.sc,.slice a.Y v.E.length a.Z,.int .i64 v.O,.int .i64 v.D,.int .i64 v.F,.int .i64 v.C,.slice a.W v.ks.length a.X,.slice a.N v.ps.length a.Q,.slice a.L v.ls.length a.P,.int .i64 v.M,.slice a.qa v.H.length a.qc,.slice a.y v.ms.length a.mc,.int .i64 v.U,.int .i64 v.V,.int .i64 v.ro]
abbrev Xm(v:Vd)(a:Option Addr)(b:Nat)(c:Option Addr)(d:Nat)(e:Option Addr)(f:Nat)(g:Option Addr)(h:Nat)(i:Option Addr)(j:Nat)(k:Option Addr)(l:Nat)(m:Option Addr)(n:Nat):List Value:=[.int .i64 v.wd,.int .i64 v.lim,.slice a v.ss.length b,.slice c v.E.length d,.int .i64 v.O,.int .i64 v.D,.int .i64 v.F,.int .i64 v.C,.slice e v.ks.length f,.slice g v.ps.length h,.slice i v.ls.length j,.int .i64 v.M,.slice k v.H.length l,.slice m v.ms.length n,.int .i64 v.U,.int .i64 v.V,.int .i64 v.ro]
abbrev Xl(v:Vd)(a:Option Addr)(b:Nat)(c:Option Addr)(d:Nat)(e:Option Addr)(f:Nat)(g:Option Addr)(h:Nat)(i:Option Addr)(j:Nat)(k:Option Addr)(l:Nat)(m:Option Addr)(n:Nat):Array Value:=#[.int .i64 v.wd,.int .i64 v.lim,.slice a v.ss.length b,.slice c v.E.length d,.int .i64 v.O,.int .i64 v.D,.int .i64 v.F,.int .i64 v.C,.slice e v.ks.length f,.slice g v.ps.length h,.slice i v.ls.length j,.int .i64 v.M,.slice k v.H.length l,.slice m v.ms.length n,.int .i64 v.U,.int .i64 v.V,.int .i64 v.ro]
structure Df (w:Zh) (B:Nat) (a:Va) (v:Vd):Prop where
 s:Af w B a.i v.ss
 t:Af w B a.Y v.E
 R:Bx w B a.W a.N a.L v.ks v.ps v.ls
 q:Af w B a.qa v.H
 m:Af w B a.y v.ms
theorem Df.ag{c:Zh}{a:Va}{v:Vd}(h:Df w B a v)(b:Below B w c):Df c B a v:=
 ⟨h.s.A b,h.t.A b,h.R.ag b,h.q.A b,h.m.A b⟩
theorem Df.mono{a:Va}{v:Vd}(h:Df w B a v)(b:B<=c):Df w c a v:=
 ⟨h.s.aj b,h.t.aj b,h.R.aj b,h.q.aj b,h.m.aj b⟩
abbrev Df.aj:=@Df.mono
theorem Df.T{b:Zh}{a:Va}{v:Vd}(h:Df w w.1.size a v)(c:Zz w b):Df b b.1.size a v:=(h.ag c).aj c.size
structure Wj (a:Va) (v:Vd):Prop where
 s:a.i=none->v.ss.length=0/\a.sc=0
 t:a.Y=none->v.E.length=0/\a.Z=0
 m:v.ms.length<=a.mc
structure FZ (v:Vd):Prop where
 s:v.ss.length<=1048576
 t:v.E.length<=1048576
 ss:∀s∈v.ss,s.size<=1048576
 E:∀s∈v.E,s.size<=1048576
 R:JA v.ks v.ps v.ls
 r:Ss v.H v.ms
 rn:Fz v.ks<=1048576
structure ES (v:Vd) (r:Rs):Prop where
 wd:1<=v.wd/\v.wd<=8
 lim:0<=v.lim/\v.lim<=1000000
 log:Cv v.ss v.E=true
 run:CZ v.wd r0 (v.ss++v.E) r
 same:(v.wd=v.O/\r.D=v.D/\r.F=v.F/\r.C=v.C)/\r.ks=v.ks/\r.ps=v.ps/\r.ls=v.ls
 round:Cc v.wd v.C v.M v.U v.V v.ro v.H v.ms
def CB(v:Vd):Prop:=∃r,ES v r
theorem EM{a b:Zl}(h:Cv a b=true):(a++b).length<=4000:=by unfold Cv at h;simp at h;rw[Ak];exact h.1
theorem Qe{j k l m n o p q r s a c d e f g i:D4}(h:Aa w b [j,k,l,m,n,o,p,q,r,s,a,c,d,e,f,g,i]):w.cell? (Zd b 0)=some j/\w.cell? (Zd b 1)=some k/\w.cell? (Zd b 2)=some l/\w.cell? (Zd b 3)=some m/\w.cell? (Zd b 4)=some n/\w.cell? (Zd b 5)=some o/\w.cell? (Zd b 6)=some p/\w.cell? (Zd b 7)=some q/\w.cell? (Zd b 8)=some r/\w.cell? (Zd b 9)=some s/\w.cell? (Zd b 10)=some a/\w.cell? (Zd b 11)=some c/\w.cell? (Zd b 12)=some d/\w.cell? (Zd b 13)=some e/\w.cell? (Zd b 14)=some f/\w.cell? (Zd b 15)=some g/\w.cell? (Zd b 16)=some i:=
 ⟨(h 0 _ rfl).1,(h 1 _ rfl).1,(h 2 _ rfl).1,(h 3 _ rfl).1,(h 4 _ rfl).1,(h 5 _ rfl).1,(h 6 _ rfl).1,(h 7 _ rfl).1,(h 8 _ rfl).1,(h 9 _ rfl).1,(h 10 _ rfl).1,(h 11 _ rfl).1,(h 12 _ rfl).1,(h 13 _ rfl).1,(h 14 _ rfl).1,(h 15 _ rfl).1,(h 16 _ rfl).1⟩
theorem Ng(o f c b:Int)(a p l:Zk)(n m k j i:Nat)(d:Dj)(s:Zi)(w:Zh)(q:AW w w.1.size a d)(S:d.length<=1000)(r:¬Am d s):
 D8 76 #[.agg (Yg o f c b a d.length n p m k l j i),C4 s] w λe g=>e=C5 (.agg (BE 2 ⟨#[]⟩ ⟨#[]⟩).toArray)/\Zz w g:=by
 have⟨W,g⟩:=Ae ((w.alloc (.cells (Yg o f c b a d.length n p m k l j i) 27)).alloc (.cells Xz 36));have h:=(Bi g).1;have y:=(Bi g).2.2.1;have z:Aa W (w.1.size+1) z12:=by have x:=Aa.new (w.alloc (.cells (Yg o f c b a d.length n p m k l j i) 27)) z12 36;rw[Al]at x;rw[g];exact x
 have t:=Yw (Dk o f c b a n (C3 p m k) (C3 l j i) d s W w.1.size (AW.A q h) h.size Yv);have R:=IJ r;have u:=Yw g;have A:=Yw z;have⟨v0,B,C,D,E,F,G,H⟩:=Be y;clear g y z q r;go_enter func76,ntmps76;go_upto_region 1 with fail;rw[<-u.o];clear u;go_wp2_with fail;refine t.Ai ?_;rintro e y ⟨rfl,g⟩
 obtain⟨⟨z,V⟩,⟨I,X⟩,⟨J,Y⟩,⟨K,Z⟩,⟨L,q4⟩,⟨M,q5⟩,⟨N,q6⟩,⟨O,q7⟩,⟨P,q8⟩,⟨Q,q9⟩,⟨r,T⟩,u,U⟩:=Bf (Aa.A (v:=Ze) A g);have q:=h.ah (g.aj h.size);generalize Cu d s=fi at *
 clear v0 B C D E F G H t;go_wp2;refine C0 (.agg (BE 2 ⟨#[]⟩ ⟨#[]⟩).toArray) (by simp[results,results76,go_sem,z,I,J,K,L,M,N,O,P,Q,r,u,BE]) ?_;exact⟨rfl,q.ah (Tn.A (Bs y (w.1.size+1) _ _ _ _ _ _ _ _ _ _ _ _) q.size (by intro v t;simp at t;omega))⟩
theorem DD(g:Int)(z:Nat)(args:Array Value)(x f c a:Int)(q n k:Zk)(t r p o m l:Nat)(s y d:Zi)(i:Int)(C:Zk)(E D:Nat)(w:Zh)(V:List Nat)(Q:Zh->Ending->Zh->Prop)(S:Ending->Zh->Prop)(hk:(g=1/\z=70/\args= #[.agg (Yg x f c a q t r n p o k m l),.agg (Yd g s y i d C E D)])\/(g=2/\z=71/\args= #[.agg (Yg x f c a q t r n p o k m l),.agg (Yd g s y i d C E D)])\/(g=3/\z=72/\args= #[.agg (Yg x f c a q t r n p o k m l),C4 y])\/(g=5/\z=74/\args= #[.agg (Yg x f c a q t r n p o k m l),Zg i])\/(g=6/\z=75/\args= #[.agg (Yg x f c a q t r n p o k m l),Zg i])\/(g=7/\z=76/\args= #[.agg (Yg x f c a q t r n p o k m l),C4 s]))(h:∀b∈V,b<w.1.size)(hc:∀X,Zz w X->w.1.size+3<=X.1.size->D8 z args X (Q X))(hf:∀X e u,Q X e u->Tn V X u/\∃(Y Z c2 c3 c4:Int) (N:Zk) (P O:Nat) (J:Zk) (L K:Nat) (F:Zk) (I G:Nat) (M:Zi) (H:Int) (T U:Zi),e=C5 (.agg #[Zg Y,Zg Z,Zg c2,Zg c3,Zg c4,C3 N P O,C3 J L K,C3 F I G,C4 M,Zg H,C4 T,C4 U]))(hq:∀X e u j,Zz w X->w.1.size+3<=X.1.size->Q X e u->Tn [w.1.size+2] u j->S e j):
 D8 30 #[.agg (Yg x f c a q t r n p o k m l),.agg (Yd g s y i d C E D)] w S:=by
 have⟨W,B⟩:=Ae (((w.alloc (.cells (Yg x f c a q t r n p o k m l) 27)).alloc (.cells (Yd g s y i d C E D) 32)).alloc (.cells Xz 36));have R:=(BI B).1;have zC:=(BI B).2.1;have x0:=(BI B).2.2.1;have xe:Aa W (w.1.size+1) (Yc g s y i d C E D):=by have A:=Aa.new (w.alloc (.cells (Yg x f c a q t r n p o k m l) 27)) (Yc g s y i d C E D) 32;rw[Al]at A;rw[B];exact Aa.A A (Zy)
 have x1:Aa W (w.1.size+2) z12:=by have A:=Aa.new ((w.alloc (.cells (Yg x f c a q t r n p o k m l) 27)).alloc (.cells (Yd g s y i d C E D) 32)) z12 36;rw[Al,Al]at A;rw[B];exact A
 have X:=Yw (hc W R Yv);have HQ:Hid (∀e u j,Q W e u->Tn [w.1.size+2] u j->S e j):=λe u j A h2=>hq W e u j R Yv A h2;have HF:=Yw (hf W);have u:Hid (Aa W (w.1.size+2) z12):=x1;have HV:Hid (∀b∈V,b<w.1.size):=h;have j:=Yw B;obtain⟨v0,v1,v2,v3,v4,v5,v6⟩:=Aa.c7 x0 0 1 2 3 4 5 6;obtain⟨e0,e1,e2,e3,e4,e5⟩:=Aa.c6 xe 0 1 2 3 4 5;clear B x0 xe x1 hc hq hf h R
 rcases hk with⟨rfl,rfl,rfl⟩|⟨rfl,rfl,rfl⟩|⟨rfl,rfl,rfl⟩|⟨rfl,rfl,rfl⟩|⟨rfl,rfl,rfl⟩|⟨rfl,rfl,rfl⟩
 all_goals
  go_enter func30,ntmps30;go_upto_region 1 with fail;rw[<-j.o];clear j;go_wp2_with fail;refine X.Ai ?_;intro e b j;obtain⟨B,Y,Z,c2,c3,c4,N,P,O,J,L,K,F,I,G,M,H,T,U,rfl⟩:=HF e b j;have R:Aa b (w.1.size+2) z12:=Aa.same u (B.block _ u.lt (λh=>Dz (HV _ h)));have⟨⟨y0,q0⟩,⟨y1,q1⟩,⟨y2,q2⟩,⟨y3,q3⟩,⟨y4,q4⟩,⟨y5,q5⟩,⟨y6,q6⟩,⟨y7,q7⟩,⟨y8,q8⟩,⟨y9,q9⟩,⟨zA,zE⟩,zB,zF⟩:=Bf R
  have h:=Yw j;clear j R B v0 v1 v2 v3 v4 v5 v6 e0 e1 e2 e3 e4 e5 X HF;go_wp2;refine C0 (.agg #[Zg Y,Zg Z,Zg c2,Zg c3,Zg c4,C3 N P O,C3 J L K,C3 F I G,C4 M,Zg H,C4 T,C4 U]) (by simp[results,results30,go_sem,y0,y1,y2,y3,y4,y5,y6,y7,y8,y9,zA,zB]) ?_;exact HQ _ _ _ h (Bs b (w.1.size+2) _ _ _ _ _ _ _ _ _ _ _ _)
theorem OE(i d b a:Int)(q n k:Zk)(t r p o m l:Nat)(s L f:Zi)(g:Int)(M:Zk)(O N:Nat)(w:Zh)(K:Int)(Q:Zh->Ending->Zh->Prop)(Q':Ending->Zh->Prop)(R:∀X,Zz w X->D8 67 #[.agg (Yg i d b a q t r n p o k m l),C4 s] X λe c=>e=C5 (Zg K)/\Zz X c)(z:0<=K->∀X,Zz w X->w.1.size+3<=X.1.size->D8 31 #[.agg (Yg i d b a q t r n p o k m l)] X λe c=>(∃G I H D F E A C B,e=C5 (.agg (Yg i d b a G I H D F E A C B))/\∀Y,Zz c Y->D8 73 #[.agg (Yg i d b a G I H D F E A C B),C4 s,Zg g] Y (Q X))/\Zz X c)(hf:∀X e c,Zz w X->Q X e c->Zz X c/\∃(c0 c1 c2 c3 c4:Int) (G:Zk) (I H:Nat) (D:Zk) (F E:Nat) (A:Zk) (C B:Nat) (Z:Zi) (V:Int) (a' b':Zi),e=C5 (.agg #[Zg c0,Zg c1,Zg c2,Zg c3,Zg c4,C3 G I H,C3 D F E,C3 A C B,C4 Z,Zg V,C4 a',C4 b']))(T:K<0->∀c,Zz w c->Q' (.returned (.agg (BE 2 ⟨#[]⟩ ⟨#[]⟩).toArray)) c)(hq:0<=K->∀X e c h,Zz w X->w.1.size+3<=X.1.size->Q X e c->Tn [w.1.size+2] c h->Q' e h):
 D8 30 #[.agg (Yg i d b a q t r n p o k m l),.agg (Yd 4 s L g f M O N)] w Q':=by
 have⟨W,c⟩:=Ae (((w.alloc (.cells (Yg i d b a q t r n p o k m l) 27)).alloc (.cells (Yd 4 s L g f M O N) 32)).alloc (.cells Xz 36));have h:=(BI c).1;have zM:=(BI c).2.1;have j:=(BI c).2.2.1;have y:Aa W (w.1.size+1) (Yc 4 s L g f M O N):=by have S:=Aa.new (w.alloc (.cells (Yg i d b a q t r n p o k m l) 27)) (Yc 4 s L g f M O N) 32;rw[Al]at S;rw[c];exact Aa.A S (Zy)
 have P:Aa W (w.1.size+2) z12:=by have S:=Aa.new ((w.alloc (.cells (Yg i d b a q t r n p o k m l) 27)).alloc (.cells (Yd 4 s L g f M O N) 32)) z12 36;rw[Al,Al]at S;rw[c];exact S
 have u:=Yw (R W h);have J:Hid (∀X,Zz W X->Aa X w.1.size (Yh i d b a q t r n p o k m l)/\Aa X (w.1.size+1) (Yc 4 s L g f M O N)/\Aa X (w.1.size+2) z12/\Zz w X):=λX x=>⟨Aa.A j x,Aa.A y x,Aa.A (v:=Ze) P x,h.ah (x.aj h.size)⟩;have U:=Yw c;have zF:=Yw z;have HF:=Yw hf;have zI:=Yw T;have HQ:=Yw hq;obtain⟨v0,v1,v2,v3,v4,v5,v6⟩:=Aa.c7 j 0 1 2 3 4 5 6
 obtain⟨e0,e1,e2,e3,e4,e5⟩:=Aa.c6 y 0 1 2 3 4 5;clear c j y P R z hf T hq h;go_enter func30,ntmps30;go_upto_region 1 with fail;rw[<-U.o];clear U;go_wp2_with fail;refine u.Ai ?_;rintro e c ⟨rfl,h⟩;have T:Hid (Zz W c):=h;clear v0 v1 v2 v3 v4 v5 v6 e0 e1 e2 e3 e4 e5 u h;have⟨j,y,P,U⟩:=J c T;by_cases hneg:K<0
 .obtain⟨⟨y0,q0⟩,⟨y1,q1⟩,⟨y2,q2⟩,⟨y3,q3⟩,⟨y4,q4⟩,⟨y5,q5⟩,⟨y6,q6⟩,⟨y7,q7⟩,⟨y8,q8⟩,⟨y9,q9⟩,⟨zA,zJ⟩,zB,zK⟩:=Bf P;have zC:=Yw U;clear j y P U J;go_wp2;refine C0 (.agg (BE 2 ⟨#[]⟩ ⟨#[]⟩).toArray) (by simp[results,results30,go_sem,y0,y1,y2,y3,y4,y5,y6,y7,y8,y9,zA,zB,BE]) ?_
  exact zI hneg _ (zC.ah (Tn.A (Bs c (w.1.size+2) _ _ _ _ _ _ _ _ _ _ _ _) zC.size (by intro v hv;simp at hv;omega)))
 .have h0:0<=K:=Yv
  have D1:Below c.1.size c c.drew:=Ad.drew;have bd:=T.ah (D1.aj T.size);have u:=(J _ bd).2.2.2;have zH:w.1.size+3<=c.drew.1.size:=Dz bd.size
  have zE:=Yw (zF h0 c.drew u zH);have z:=Yw bd
  have P1:c.drew.cell? (Zd (w.1.size) 0)=some (Zg i)/\c.drew.cell? (Zd (w.1.size) 1)=some (Zg d)/\c.drew.cell? (Zd (w.1.size) 2)=some (Zg b)/\c.drew.cell? (Zd (w.1.size) 3)=some (Zg a)/\c.drew.cell? (Zd (w.1.size) 4)=some (C3 q t r)/\c.drew.cell? (Zd (w.1.size) 5)=some (C3 n p o)/\c.drew.cell? (Zd (w.1.size) 6)=some (C3 k m l)/\c.drew.cell? (Zd (w.1.size+1) 1)=some (C4 s)/\c.drew.cell? (Zd (w.1.size+1) 3)=some (Zg g):=⟨(j 0 _ rfl).1,(j 1 _ rfl).1,(j 2 _ rfl).1,(j 3 _ rfl).1,(j 4 _ rfl).1,(j 5 _ rfl).1,(j 6 _ rfl).1,(y 1 _ rfl).1,(y 3 _ rfl).1⟩
  have HS:Hid (∀X,Zz W X->X.cell? (Zd (w.1.size) 0)=some (Zg i)/\X.cell? (Zd (w.1.size) 1)=some (Zg d)/\X.cell? (Zd (w.1.size) 2)=some (Zg b)/\X.cell? (Zd (w.1.size) 3)=some (Zg a)/\X.cell? (Zd (w.1.size) 4)=some (C3 q t r)/\X.cell? (Zd (w.1.size) 5)=some (C3 n p o)/\X.cell? (Zd (w.1.size) 6)=some (C3 k m l)/\X.cell? (Zd (w.1.size+1) 1)=some (C4 s)/\X.cell? (Zd (w.1.size+1) 3)=some (Zg g)):=λX x=>by
   have⟨h,R,_⟩:=J X x;exact⟨(h 0 _ rfl).1,(h 1 _ rfl).1,(h 2 _ rfl).1,(h 3 _ rfl).1,(h 4 _ rfl).1,(h 5 _ rfl).1,(h 6 _ rfl).1,(R 1 _ rfl).1,(R 3 _ rfl).1⟩
  have zG:Hid (∀X Y,Zz W X->Tn [w.1.size+1+1] X Y->Y.cell? (Zd (w.1.size) 0)=some (Zg i)/\Y.cell? (Zd (w.1.size) 1)=some (Zg d)/\Y.cell? (Zd (w.1.size) 2)=some (Zg b)/\Y.cell? (Zd (w.1.size) 3)=some (Zg a)/\Y.cell? (Zd (w.1.size) 4)=some (C3 q t r)/\Y.cell? (Zd (w.1.size) 5)=some (C3 n p o)/\Y.cell? (Zd (w.1.size) 6)=some (C3 k m l)/\Y.cell? (Zd (w.1.size+1) 1)=some (C4 s)/\Y.cell? (Zd (w.1.size+1) 3)=some (Zg g)):=λX Y x Y=>by
   have⟨z0,z1,_⟩:=J X x;have h:=Aa.same z0 (Y.block _ z0.lt Yt);have R:=Aa.same z1 (Y.block _ z1.lt Yu);exact⟨(h 0 _ rfl).1,(h 1 _ rfl).1,(h 2 _ rfl).1,(h 3 _ rfl).1,(h 4 _ rfl).1,(h 5 _ rfl).1,(h 6 _ rfl).1,(R 1 _ rfl).1,(R 3 _ rfl).1⟩
  have Y:=hneg;clear j y P U bd P1;go_upto_region 11 with fail
  go_region_held3 (λX=>X.cell? (Zd (w.1.size) 0)=some (Zg i)/\X.cell? (Zd (w.1.size) 1)=some (Zg d)/\X.cell? (Zd (w.1.size) 2)=some (Zg b)/\X.cell? (Zd (w.1.size) 3)=some (Zg a)/\X.cell? (Zd (w.1.size) 4)=some (C3 q t r)/\X.cell? (Zd (w.1.size) 5)=some (C3 n p o)/\X.cell? (Zd (w.1.size) 6)=some (C3 k m l)/\X.cell? (Zd (w.1.size+1) 1)=some (C4 s)/\X.cell? (Zd (w.1.size+1) 3)=some (Zg g))
   (first|with_reducible exact HS.o _ z.o|with_reducible exact HS.o _ B2|with_reducible exact HS.o _ P|with_reducible exact zG.o _ _ P (Bs _ _ _ _ _ _ _ _ _ _ _ _ _ _))
   (first
     |(go_at_call 31;refine zE.Ai ?_;rintro e U ⟨⟨G,I,H,D,F,E,A,C,B,rfl,x⟩,j⟩;have B2:Below W.1.size W U:=z.ah (j.aj z.size);have y:=Yw (x U Ad);clear x j)
     |(go_at_call 73;refine y.Ai ?_;intro e x j;obtain⟨hb3,c0,c1,c2,c3,c4,ua',un',uc',va',vn',vc',xa',xn',xc',Z,V,a',b',rfl⟩:=HF c.drew e x u j;have P:Below W.1.size W x:=z.ah (hb3.aj z.size);have X:=Yw j;have⟨_,_,zz1,_⟩:=J x P;have⟨⟨y0,q0⟩,⟨y1,q1⟩,⟨y2,q2⟩,⟨y3,q3⟩,⟨y4,q4⟩,⟨y5,q5⟩,⟨y6,q6⟩,⟨y7,q7⟩,⟨y8,q8⟩,⟨y9,q9⟩,⟨zA,zJ⟩,zB,zK⟩:=Bf zz1;clear j hb3 zz1))
  clear y zE HS zG zF HF;go_wp2;refine C0 (.agg #[Zg c0,Zg c1,Zg c2,Zg c3,Zg c4,C3 ua' un' uc',C3 va' vn' vc',C3 xa' xn' xc',C4 Z,Zg V,C4 a',C4 b']) (by simp[results,results30,go_sem,y0,y1,y2,y3,y4,y5,y6,y7,y8,y9,zA,zB]) ?_;exact HQ h0 c.drew _ _ _ u zH X (Bs x (w.1.size+2) _ _ _ _ _ _ _ _ _ _ _ _)
structure L1 (RA:Nat->Zh->Zj->Prop) (w X:Zh) (A sc:Zj) (pS L:Nat):Prop where
 cu:Below w.1.size w X
 bA:Aa X w.1.size A
 bS:Aa X pS sc
 rS:RA L X sc
 l0:w.1.size<L
 l1:pS<L
 le:L<=X.1.size
structure L2 (OX:Nat->Nat->Zh->Zj->Prop) (X:Zh) (xc:Zj) (L pX N:Nat):Prop where
 bX:Aa X pX xc
 oX:OX L N X xc
 l1:N<=pX
 le:pX<X.1.size
structure L3 (P:Nat->Nat->Zh->Zj->Prop) (X:Zh) (gc:Zj) (lo pG N:Nat):Prop where
 bG:Aa X pG gc
 oG:P lo N X gc
 l1:N<=pG
 le:pG<X.1.size
theorem L3.stays{P:Nat->Nat->Zh->Zj->Prop}(k:∀(b N:Nat) (X a:Zh) (d:Zj),P b N X d->X.1.size<=a.1.size->(∀q,b<=q->q<N->a.1[q]?=X.1[q]?)->P b N a d){a:Zh}{e:Zj}{N:Nat}(h:L3 P X e b c N)(l:B<=b)(i:B<=c)(g:X.1.size<=a.1.size)(f:∀q,B<=q->q<X.1.size->a.1[q]?=X.1[q]?):L3 P a e b c N:=
 ⟨Aa.same h.bG (f _ i h.le),k _ _ _ _ _ h.oG g (λq j j=>f q Yv (by have:=h.l1;have:=h.le;omega)),h.l1,Zr h.le g⟩
theorem boxed{cs z:Zj}{T:TypeId}(b:cs.length=z.length):Aa ((X.alloc (.cells z.toArray T)).setCells X.1.size 0 cs) X.1.size cs/\Zz X ((X.alloc (.cells z.toArray T)).setCells X.1.size 0 cs)/\((X.alloc (.cells z.toArray T)).setCells X.1.size 0 cs).1.size=X.1.size+1:=by have a:=Aa.new X z T;have c:=AV X.1.size cs 0 (X.alloc (.cells z.toArray T));refine⟨a.ay cs b,(Zy).ah (c.A Yu Yu),?_⟩;rw[Gl];simp
def Ke(wd now given births:Int)(ks:List Kd)(ps:List Pd)(ls:List Ld)(kd:Int)(s nm:Zi)(num:Int)(text:Zi)(refs:Zl)(w:Zh)(e:Ending)(w':Zh):Prop:=
 Below w.1.size w w'/\(
  (¬(AJ wd now given births ks ps ls/\Bp kd s nm num text refs wd=true)/\e=.returned (.agg (BE 1 ⟨#[]⟩ ⟨#[]⟩).toArray))\/
  ((AJ wd now given births ks ps ls/\Bp kd s nm num text refs wd=true)/\(
    (∃c a b,Ep wd now given births ks ps ls kd s nm num text refs c a b/\e=.returned (.agg (BE c a b).toArray))\/
    (∃r T P L rs,BP wd now given births ks ps ls kd s nm num text refs r/\e=.returned (.agg #[Ze,Zg wd,Zg r.D,Zg r.F,Zg r.C,T,P,L,.string r.j,Zg r.le,Zc,Zc])/\Ba w' w.1.size T P L rs r.ks r.ps r.ls))))
theorem UP(c:Int)(a b:Zi):(BE c a b).toArray= #[Zg c,Ze,Ze,Ze,Ze,Zb,Zb,Zb,Zc,Ze,C4 a,C4 b]:=rfl
theorem Tm(q t g f:Int)(a p l:Zk)(ac pc lc:Nat)(x:List Kd)(z:List Pd)(y:List Ld)(B:Int)(s C:Zi)(u:Int)(n:Zi)(i:Zl)(J:Zk)(V:Nat)(w:Zh)(E:Bx w w.1.size a p l x z y)(S:Iq x)(c:IP z)(b:La y)(Q:JA x z y)(K:∀k∈x,(Lit.int .i64 k.born).wf=true)(hT:Hz w)(d:Af w w.1.size J i)(yL:i.length<=1048576)(yA:n.size<=maxLen)(yK:C.size<=maxLen):
 D8 5 #[.agg #[.int .i64 q,.int .i64 t,.int .i64 g,.int .i64 f,.slice a x.length ac,.slice p z.length pc,.slice l y.length lc],.agg #[.int .i64 B,.string s,.string C,.int .i64 u,.string n,.slice J i.length V]] w (Ke q t g f x z y B s C u n i w):=by
 have⟨W,G⟩:∃W,W=((w.alloc (.cells #[.int .i64 q,.int .i64 t,.int .i64 g,.int .i64 f,.slice a x.length ac,.slice p z.length pc,.slice l y.length lc] 27)).alloc (.cells #[.int .i64 B,.string s,.string C,.int .i64 u,.string n,.slice J i.length V] 32)).alloc (.cells #[.int .i64 0,.int .i64 0,.int .i64 0,.int .i64 0,.int .i64 0,.slice none 0 0,.slice none 0 0,.slice none 0 0,.string ⟨#[]⟩,.int .i64 0,.string ⟨#[]⟩,.string ⟨#[]⟩] 36):=⟨_,rfl⟩
 have H:Below w.1.size w W:=by rw[G];exact((Zy).alloc (by simp) _).alloc (by simp;omega) _
 have yX:W.1.size=w.1.size+3:=by rw[G];simp
 have o:Aa W w.1.size [.int .i64 q,.int .i64 t,.int .i64 g,.int .i64 f,.slice a x.length ac,.slice p z.length pc,.slice l y.length lc]:=by rw[G];exact Aa.A (Aa.new w _ 27) ((Zy).alloc (by simp) _)
 have A:Aa W (w.1.size+1) [.int .i64 B,.string s,.string C,.int .i64 u,.string n,.slice J i.length V]:=by have h1:=Aa.new (w.alloc (.cells #[.int .i64 q,.int .i64 t,.int .i64 g,.int .i64 f,.slice a x.length ac,.slice p z.length pc,.slice l y.length lc] 27)) [.int .i64 B,.string s,.string C,.int .i64 u,.string n,.slice J i.length V] 32;rw[size_alloc]at h1;rw[G];exact Aa.A h1 (Zy)
 have D:Aa W (w.1.size+2) z12:=by have h1:=Aa.new ((w.alloc (.cells #[.int .i64 q,.int .i64 t,.int .i64 g,.int .i64 f,.slice a x.length ac,.slice p z.length pc,.slice l y.length lc] 27)).alloc (.cells #[.int .i64 B,.string s,.string C,.int .i64 u,.string n,.slice J i.length V] 32)) z12 36;rw[size_alloc,size_alloc]at h1;rw[G];exact h1
 have HX:Hid (∀X,Zz W X->Aa X w.1.size [.int .i64 q,.int .i64 t,.int .i64 g,.int .i64 f,.slice a x.length ac,.slice p z.length pc,.slice l y.length lc]/\Aa X (w.1.size+1) [.int .i64 B,.string s,.string C,.int .i64 u,.string n,.slice J i.length V]/\Aa X (w.1.size+2) z12/\Zz w X/\Bx X X.1.size a p l x z y/\Af X w.1.size J i):=λX I=>by have F:Below w.1.size w X:=H.ah (I.aj H.size);exact⟨Aa.A o I,Aa.A A I,Aa.A (v:=.int .i64 0) D I,F,E.T F,Af.A d F⟩
 have M:Hid _:=FC q t g f a p l ac pc lc x z y W (E.T H) S c b Q K;have Z:Hid (∀X,Zz W X->Hz X):=λX I=>hT.A (H.ah (I.aj H.size));have N:Hid _:=G;clear G E S c b Q K hT d H;obtain⟨v0,_⟩:=o 0 _ rfl;obtain⟨v1,_⟩:=o 1 _ rfl;obtain⟨v2,_⟩:=o 2 _ rfl;obtain⟨v3,_⟩:=o 3 _ rfl;obtain⟨v4,_⟩:=o 4 _ rfl;obtain⟨v5,_⟩:=o 5 _ rfl;obtain⟨v6,_⟩:=o 6 _ rfl;clear o A D;go_enter func5,ntmps5
 go_upto_region 1 with fail;rw[<-N.o];clear N;go_wp2_with fail;refine Calls.mono M ?_;rintro e w1 ⟨K,rfl,H,G⟩;have⟨o,A,D,E,S,N⟩:=HX w1 G;have zS:Hid _:=H;have zJ:Hid (Zz W w1):=G;have zB:Hid (Zz w w1):=E;clear M v0 v1 v2 v3 v4 v5 v6 H G;cases K with
 |false=>
  have zA:Hid (¬(AJ q t g f x z y/\Bp B s C u n i q=true)):=λh=>by have:=zS.2 h.1;cases this
  have⟨⟨y0,q0⟩,⟨y1,q1⟩,⟨y2,q2⟩,⟨y3,q3⟩,⟨y4,q4⟩,⟨y5,q5⟩,⟨y6,q6⟩,⟨y7,q7⟩,⟨y8,q8⟩,⟨y9,q9⟩,⟨K,zN⟩,M,zO⟩:=Bf D;clear o A D E S N;go_wp2;refine bodyPost_ret (v:=.agg (BE 1 ⟨#[]⟩ ⟨#[]⟩).toArray) (by simp[results,results5,go_sem,y0,y1,y2,y3,y4,y5,y6,y7,y8,y9,K,M,BE]) rfl ?_;exact⟨zB.ah (Tn.A (Bs w1 (w.1.size+2) _ _ _ _ _ _ _ _ _ _ _ _) zB.size (by intro v Q;simp at Q;omega)),.inl ⟨zA,rfl⟩⟩
 |true=>
  have G:=zS.1 rfl;have H:Hid (AJ q t g f x z y):=G;have c:Hid _:=Aco B s C u n J V i q w1 (Z _ zJ) (Af.aj N E.size) yL yA yK;obtain⟨e0,_⟩:=A 0 _ rfl;obtain⟨e1,_⟩:=A 1 _ rfl;obtain⟨e2,_⟩:=A 2 _ rfl;obtain⟨e3,_⟩:=A 3 _ rfl;obtain⟨e4,_⟩:=A 4 _ rfl;obtain⟨e5,_⟩:=A 5 _ rfl;obtain⟨v0,_⟩:=o 0 _ rfl;clear o A D E S N G;go_wp2_with fail;refine Calls.mono c ?_;rintro e G ⟨rfl,N⟩
  have zE:Hid (Zz W G):=zJ.ah (N.aj zJ.size);have⟨o,A,D,E,S,b⟩:=HX G zE;have zC:Hid (Zz w G):=E;clear e0 e1 e2 e3 e4 e5 v0 c N Z;cases hoe:Bp B s C u n i q with
  |false=>
   have zA:Hid (¬(AJ q t g f x z y/\Bp B s C u n i q=true)):=λh=>by rw[hoe]at h;cases h.2
   have⟨⟨y0,q0⟩,⟨y1,q1⟩,⟨y2,q2⟩,⟨y3,q3⟩,⟨y4,q4⟩,⟨y5,q5⟩,⟨y6,q6⟩,⟨y7,q7⟩,⟨y8,q8⟩,⟨y9,q9⟩,⟨K,zN⟩,M,zO⟩:=Bf D;clear o A D E S b hoe;go_wp2;refine bodyPost_ret (v:=.agg (BE 1 ⟨#[]⟩ ⟨#[]⟩).toArray) (by simp[results,results5,go_sem,y0,y1,y2,y3,y4,y5,y6,y7,y8,y9,K,M,BE]) rfl ?_
   exact⟨zC.ah (Tn.A (Bs G (w.1.size+2) _ _ _ _ _ _ _ _ _ _ _ _) zC.size (by intro v Q;simp at Q;omega)),.inl ⟨zA,rfl⟩⟩
  |true=>
   have zG:Hid (Bp B s C u n i q=true):=hoe;have N:=H.bt;have zR:Hid _:=PG q t g f a p l ac pc lc x z y G S H.nth H.np H.nl N.sz N.w8;obtain⟨v0,_⟩:=o 0 _ rfl;obtain⟨v1,_⟩:=o 1 _ rfl;obtain⟨v2,_⟩:=o 2 _ rfl;obtain⟨v3,_⟩:=o 3 _ rfl;obtain⟨v4,_⟩:=o 4 _ rfl;obtain⟨v5,_⟩:=o 5 _ rfl;obtain⟨v6,_⟩:=o 6 _ rfl;clear o A D E S b hoe N;go_wp2_with fail;refine Calls.mono zR ?_
   rintro e w3 ⟨d,m,O,P,L,rfl,N,yD,zV,zW⟩;have zK:Hid (Zz W w3):=zE.ah (zW.aj zE.size);have⟨o,A,D,T,yG,zY⟩:=HX w3 zK;have yW:w.1.size+3<=G.1.size:=Dz zE.size
   have zP:Hid (DU w3 (G.1.size+1) d m O P L q t g f x z y):=⟨N⟩;have yU:G.1.size+1<=d:=N.bd;have Y:=N.dj;have yV:d<w3.1.size:=N.box.lt;have k:GB q t g f x z y B u n i:=GB.of H zG yA
   have HA:Hid _:=Ra d (vB d m O P L) B s C n u J i.length V (λc a b=>Ep q t g f x z y B s C u n i c a b) (λZ S X=>∃r,BP q t g f x z y B s C u n i r/\r.j=Z/\r.le=S/\Qc (G.1.size+1) d m q r X) w3 Y (λZ S X E R E h1 E j j=>by
    obtain⟨r,g1,g2,g3,g4⟩:=h1;exact⟨r,g1,g2,g3,g4.stays E (by omega) (by omega) j⟩) (λX I=>Ti (G.1.size+1) d m O P L q t g f x z y B s C u n i J V X (zP.A I) k ((DG.low (Af.aj zY (by omega)) (λb F=>by
     have:=N;unfold vB at F;simp only[mem_cons,mem_append,Option.mem_toList]at F;rcases F with h|h|h|h|h
     .omega
     .have:=this.bm;omega
     .exact(Ac this.ord h).1
     .exact(Ac this.cj h).1
     .exact(Ac this.dq h).1) (by omega) ⟨m,rfl,Dz zV.2⟩).move (U:=[]) (Tn.of I) (by simp) (λb F=> .inl F)))
   have zH:Hid _:=Zn o (Zn A D);have E:Hid (Zz w w3):=T;obtain⟨e0,_⟩:=A 0 _ rfl;obtain⟨e1,_⟩:=A 1 _ rfl;obtain⟨e2,_⟩:=A 2 _ rfl;obtain⟨e3,_⟩:=A 3 _ rfl;obtain⟨e4,_⟩:=A 4 _ rfl;obtain⟨e5,_⟩:=A 5 _ rfl;have R:∀j,j<G.1.size->j∉vB d m O P L:=λj I I=>by
    have:=zP.I;unfold vB at I;simp only[mem_cons,mem_append,Option.mem_toList]at I;rcases I with h|h|h|h|h
    .omega
    .have:=this.bm;omega
    .have:=(Ac this.ord h).1;omega
    .have:=(Ac this.cj h).1;omega
    .have:=(Ac this.dq h).1;omega
   have zF:Hid (∀j,j<G.1.size->j∉vB d m O P L):=R;clear v0 v1 v2 v3 v4 v5 v6 zR zW N yD zV o A D T yG zY Y k R;go_wp2_with fail;refine Calls.mono HA ?_;intro e D yI;obtain⟨c,a',b',A,rfl,I⟩|⟨Z,S,rfl,⟨r,hy,zZ,zX,yJ⟩,I⟩:=yI
   .have yT:(c==0)=false:=by have:=A.code;simp;omega
    have zA:Hid _:=A;have T:Aa D (w.1.size+2) z12:=Aa.same zH.2.2 (I.block _ zH.2.2.lt (zF _ (by omega)));have⟨Y,N⟩:∃Y,Y=D.alloc (.cells #[.int .i64 c,.int .i64 0,.int .i64 0,.int .i64 0,.int .i64 0,.slice none 0 0,.slice none 0 0,.slice none 0 0,.string ⟨#[]⟩,.int .i64 0,.string a',.string b'] 36):=⟨_,rfl⟩;have k:Below D.1.size D Y:=by rw[N];exact Zy
    have o:Aa Y D.1.size [.int .i64 c,.int .i64 0,.int .i64 0,.int .i64 0,.int .i64 0,.slice none 0 0,.slice none 0 0,.slice none 0 0,.string ⟨#[]⟩,.int .i64 0,.string a',.string b']:=by rw[N];exact Aa.new D _ _
    have R:=Aa.A (v:=.int .i64 0) T k;have HY:Hid _:=N;have j:Hid (Zz w Y):=(E.ah (I.A E.size (by intro b F;exact Classical.byContradiction λe=>zF b (by omega) F))).ah (k.aj (Zm E.size I.size));have yM:w.1.size+3<=D.1.size:=by have:=I.size;have:=zK.size;omega
    have⟨⟨y0,q0⟩,⟨y1,q1⟩,⟨y2,q2⟩,⟨y3,q3⟩,⟨y4,q4⟩,⟨y5,q5⟩,⟨y6,q6⟩,⟨y7,q7⟩,⟨y8,q8⟩,⟨y9,q9⟩,⟨K,zN⟩,M,zO⟩:=Bf R;obtain⟨u0,xN⟩:=o 0 _ rfl;obtain⟨u1,xO⟩:=o 1 _ rfl;obtain⟨u2,xP⟩:=o 2 _ rfl;obtain⟨u3,xQ⟩:=o 3 _ rfl;obtain⟨u4,xR⟩:=o 4 _ rfl;obtain⟨u5,xS⟩:=o 5 _ rfl;obtain⟨u6,xT⟩:=o 6 _ rfl;obtain⟨u7,xU⟩:=o 7 _ rfl;obtain⟨u8,xV⟩:=o 8 _ rfl;obtain⟨u9,xW⟩:=o 9 _ rfl;obtain⟨xL,yQ⟩:=o 10 _ rfl
    obtain⟨xM,yS⟩:=o 11 _ rfl;rw[UP];clear e0 e1 e2 e3 e4 e5 HA T k o R N A I;go_upto_region 5 with fail;rw[<-HY.o];clear HY;go_wp2;refine bodyPost_ret (v:=.agg (BE c a' b').toArray) (by simp[results,results5,go_sem,y0,y1,y2,y3,y4,y5,y6,y7,y8,y9,K,M,BE]) rfl ?_
    exact⟨j.ah (Tn.A (Bs Y (w.1.size+2) _ _ _ _ _ _ _ _ _ _ _ _) j.size (by intro v Q;simp at Q;omega)),.inr ⟨⟨H,zG⟩,.inl ⟨c,a',b',zA,rfl⟩⟩⟩
   .have T:Aa D (w.1.size+2) z12:=Aa.same zH.2.2 (I.block _ zH.2.2.lt (zF _ (by omega)));have⟨Y,N⟩:∃Y,Y=D.alloc (.cells #[.int .i64 0,.int .i64 0,.int .i64 0,.int .i64 0,.int .i64 0,.slice none 0 0,.slice none 0 0,.slice none 0 0,.string Z,.int .i64 S,.string ⟨#[]⟩,.string ⟨#[]⟩] 36):=⟨_,rfl⟩;have k:Below D.1.size D Y:=by rw[N];exact Zy
    have o:Aa Y D.1.size [.int .i64 0,.int .i64 0,.int .i64 0,.int .i64 0,.int .i64 0,.slice none 0 0,.slice none 0 0,.slice none 0 0,.string Z,.int .i64 S,.string ⟨#[]⟩,.string ⟨#[]⟩]:=by rw[N];exact Aa.new D _ _
    have R:=Aa.A (v:=.int .i64 0) T k;have HY:Hid _:=N;have yM:w.1.size+3<=D.1.size:=by have:=I.size;have:=zK.size;omega
    have j:Hid (Zz w Y):=(E.ah (I.A E.size (by intro b F;exact Classical.byContradiction λe=>zF b (by omega) F))).ah (k.aj (Zm E.size I.size));have A:=hy.fits H zG;obtain⟨O',P',L',zU⟩:=yJ;have zT:Hid _:=Ud (G.1.size+1) d m O' P' L' q r.D r.F r.C r.ks r.ps r.ls Y (zU.A k) A.nd A.sz A.nk A.np A.nl A.B
    have zM:Hid (BP q t g f x z y B s C u n i r/\r.j=Z/\r.le=S):=⟨hy,zZ,zX⟩;have zI:Hid (Aa Y D.1.size [.int .i64 0,.int .i64 0,.int .i64 0,.int .i64 0,.int .i64 0,.slice none 0 0,.slice none 0 0,.slice none 0 0,.string Z,.int .i64 S,.string ⟨#[]⟩,.string ⟨#[]⟩]/\Aa Y (w.1.size+2) z12):=⟨o,R⟩;obtain⟨u0,_⟩:=o 0 _ rfl;clear e0 e1 e2 e3 e4 e5 HA T k o R N hy zZ zX zU A I
    go_upto_region 5 with fail;rw[<-HY.o];clear HY;go_wp2_with fail;refine Calls.mono zT ?_;rintro e w5 ⟨T,PP,LL,rs,rfl,A,I⟩;have⟨ta,tc,yH⟩:=Aq A.ak;have⟨pa,yB,yF⟩:=Aq A.pins;have⟨la,k,yE⟩:=Aq A.au;subst yH yF yE;have o:=Aa.A zI.1 I;have R:=Aa.A (v:=.int .i64 0) zI.2 I;have yC:Hid _:=A;have N:Hid (Zz w w5):=j.ah (I.aj j.size);have yY:D.1.size<Y.1.size:=zI.1.lt
    have⟨⟨y0,q0⟩,⟨y1,q1⟩,⟨y2,q2⟩,⟨y3,q3⟩,⟨y4,q4⟩,⟨y5,q5⟩,⟨y6,q6⟩,⟨y7,q7⟩,⟨y8,q8⟩,⟨y9,q9⟩,⟨K,zN⟩,M,zO⟩:=Bf R;obtain⟨p0,xB⟩:=o 0 _ rfl;obtain⟨p1,xC⟩:=o 1 _ rfl;obtain⟨p2,xD⟩:=o 2 _ rfl;obtain⟨p3,xE⟩:=o 3 _ rfl;obtain⟨p4,xF⟩:=o 4 _ rfl;obtain⟨p5,xG⟩:=o 5 _ rfl;obtain⟨p6,xH⟩:=o 6 _ rfl;obtain⟨p7,xI⟩:=o 7 _ rfl;obtain⟨p8,xJ⟩:=o 8 _ rfl;obtain⟨p9,xK⟩:=o 9 _ rfl;obtain⟨yZ,yO⟩:=o 10 _ rfl
    obtain⟨xA,yP⟩:=o 11 _ rfl;clear u0 zT A I o R zI;have A:∀X,Tn [D.1.size,w.1.size+2] w5 X->Ke q t g f x z y B s C u n i w (.returned (.agg #[.int .i64 0,.int .i64 q,.int .i64 r.D,.int .i64 r.F,.int .i64 r.C,.slice ta r.ks.length tc,.slice pa r.ps.length yB,.slice la r.ls.length k,.string Z,.int .i64 S,.string ⟨#[]⟩,.string ⟨#[]⟩])) X:=λX hT=>by refine⟨N.ah (hT.A N.size (by intro v Q;simp at Q;omega)),.inr ⟨⟨H,zG⟩,.inr ⟨r,_,_,_,rs,zM.1,by rw[zM.2.1,zM.2.2],(yC.K hT (by intro v Q;simp at Q;omega)).aj j.size⟩⟩⟩
    have o:Hid _:=A;clear A;go_wp2;refine bodyPost_ret (v:=.agg #[.int .i64 0,.int .i64 q,.int .i64 r.D,.int .i64 r.F,.int .i64 r.C,.slice ta r.ks.length tc,.slice pa r.ps.length yB,.slice la r.ls.length k,.string Z,.int .i64 S,.string ⟨#[]⟩,.string ⟨#[]⟩]) (by simp[results,results5,go_sem,y0,y1,y2,y3,y4,y5,y6,y7,y8,y9,K,M]) rfl ?_;refine o _ ?_
    repeat refine Tn.ah ?_ (Tn.set _ _ _ _ (by simp))
    exact Tn.of (Below.refl _ _)
