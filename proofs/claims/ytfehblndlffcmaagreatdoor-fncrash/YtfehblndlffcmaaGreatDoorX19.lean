import Derived.Test.YtfehblndlffcmaaGreatDoorX17
import Derived.Test.YtfehblndlffcmaaGreatDoorX18
import Derived.Deep.CutBlock
set_option maxRecDepth 100000
set_option maxHeartbeats 16000000
open Option renaming some->an,none->ba
open Bool renaming true->bg,false->bq
open Go.RowKit renaming Below->bs
open Go.Obj renaming cells->ca
open Go.Value renaming slice->cr,agg->ct,ownBlock->ej
open Or renaming inl->dp,inr->eb
open Go.Ground renaming data->ed
open List renaming length->eh,toArray->ei
open Go.World renaming cell?->ek,frozen?->el,ownsRow->eo,grownBy->ep,setCell->ev
open Go renaming maxLen->ew
namespace Go.Proofs.YtfehblndlffcmaaGreatDoor
open ChangeShapes WideShapes ChangeAt RowKit _root_.Go.Proofs.Tryz List World Value
variable{w X Y:Zh}{c a b g n m q size:Nat}{d f l e j u K:Int}{v:Vd}{o:An}{k:Db}{s:Zi}{r:Rs}{i:Da}{V:List Nat}{U T P L Q M:Value}{z:Kd×Value}
structure Vv (w wx:Zh) (v:Vd) (a:Va) (b:Nat) (o:An) (ta pa la:Zk) (tc pc lc:Nat):Prop where
 box:Aa wx b [Zg o.code,Zg o.wd,Zg o.F,Zg o.G,Zg o.E,cr ta (eh o.B) tc,cr pa (eh o.ps) pc,cr la (eh o.ls) lc,.string o.sm,Zg o.le,.string o.a,.string o.b]
 rows:Bo wx wx.1.size ta pa la o.B o.ps o.ls
 rto:Mw v.wd (v.ss++v.C) o
 fy:Aa wx w.1.size [Zg v.wd,Zg v.lim,cr a.Y (eh v.ss) a.sc,cr a.V (eh v.C) a.T,Zg v.J,Zg v.F,Zg v.G,Zg v.E,cr a.Q (eh v.B) a.W,cr a.L (eh v.ps) a.P,cr a.K (eh v.ls) a.O,Zg v.I,cr a.Z (eh v.H) a.y,cr a.g (eh v.ms) a.j,Zg v.N,Zg v.M,Zg v.ro]
 cn:bs w.1.size w wx
theorem Vv.fin{c d:Zh}{a:Va}{h g f:Zk}{l:Nat}(p:Mw v.wd (v.ss++v.C) o)(hS:∀X,Tn [b] d X->Bo X X.1.size h g f o.B o.ps o.ls)(k:Zz w c)(e:Zz c d)(r:Aa c w.1.size (Xp v a))(t:w.1.size<c.1.size)(s:Aa d b z12)(x:c.1.size<=b):
 Vv w (ev (ev (ev (ev (ev (ev (ev (ev (ev (ev (ev (ev d (Zd b 0) (Zg o.code)) (Zd b 1) (Zg o.wd)) (Zd b 2) (Zg o.F)) (Zd b 3) (Zg o.G)) (Zd b 4) (Zg o.E)) (Zd b 5) (C3 h (eh o.B) n)) (Zd b 6) (C3 g (eh o.ps) m)) (Zd b 7) (C3 f (eh o.ls) l)) (Zd b 8) (C4 o.sm)) (Zd b 9) (Zg o.le)) (Zd b 10) (C4 o.a)) (Zd b 11) (C4 o.b)) v a b o h g f n m l:=by
 have i:=BB d b (Zg o.code) (Zg o.wd) (Zg o.F) (Zg o.G) (Zg o.E) (C2 h o.B n) (C2 g o.ps m) (C2 f o.ls l) (C4 o.sm) (Zg o.le) (C4 o.a) (C4 o.b);have u:=e.size;refine⟨Su s _ _ _ _ _ _ _ _ _ _ _ _,?_,p,?_,?_⟩
 .exact hS _ i
 .exact Aa.same (Aa.A r e) (i.block _ Yv Yt)
 exact(k.ag (e.ai k.size)).ag (i.A Yv (λj q=>by simp at q;have:=k.size;omega))
theorem DJ{a:Va}(q:Bc w w.1.size a v)(d:Kv a v)(z:Dz v):
 D8 5 #[ct (Xq v a)] w λe w'=>Av (BW v) w w' e:=by
 have⟨W,c⟩:=D6 w (Xq v a) 34;obtain⟨K,zW,t⟩:=(Ax c).1,(Ax c).2.1,(Ax c).2.2;have HX:Hid (Aa W _ _):=(Ax c).2.2;obtain⟨HR,HW,S,zB,zE,M,N,O,Q,y4,y5,y6,y7,y8,y9,D,E,F,G,H,I,J⟩:=Yw q,Yw c,Yw (EX v.wd W),Yw (CY v.lim 0 1000000 W),Yw (EE a.V a.sc a.T v.C K.size (q.s.A K) (q.t.A K) z.s z.t z.ss z.C),Jb t;clear c t q;by_cases hwd:1<=v.wd/\v.wd<=8
 case neg=>rw[decide_eq_false hwd]at S;delta D8;go_in;go_wp2_with fail;rw[<-HW.o];refine S.Aj ?_;rintro e w1 ⟨rfl,c⟩;replace c:=c.symm;subst c;clear M N O Q y4 y5 y6 y7 y8 y9 D E F G H I J;go_wp2;go_ret;exact Av.no (λ⟨r,h⟩=>hwd h.wd) K
 rw[decide_eq_true hwd]at S;by_cases hlim:0<=v.lim/\v.lim<=1000000
 case neg=>rw[decide_eq_false hlim]at zB;delta D8;go_in;go_wp2_with fail;rw[<-HW.o];refine S.Aj ?_;rintro e w1 ⟨rfl,c⟩;replace c:=c.symm;subst c;go_wp2_with fail;refine zB.Aj ?_;rintro e w1 ⟨rfl,c⟩;replace c:=c.symm;subst c;clear M N O Q y4 y5 y6 y7 y8 y9 D E F G H I J;go_wp2;go_ret;exact Av.no (λ⟨r,h⟩=>hlim h.lim) K
 rw[decide_eq_true hlim]at zB;cases hlog:BG v.ss v.C with
 |true=>
  rw[hlog]at zE;obtain⟨zX,xs,c⟩:=DQ hlog,Ag (v.ss++v.C);have n:Hid (∀X,Zz W X->D8 21 #[ct #[C2 a.Y v.ss a.sc,C2 a.V v.C a.T]] X λe w'=>∃g q,e=C5 (C6 g xs q)/\eo w' X.1.size 9 1 (C6 g xs q) (eh xs) (xs.map string)/\Zz X w'):=λX x=>by have hb:=K.ag (x.ai K.size);rw[c];exact NR a.sc a.T (HR.s.X hb) (HR.t.X hb) d.s d.t z.s z.t
  have k:Hid (∀(X:Zh) (g q:Nat),Ab X X.1.size (an ⟨g,0,ba⟩) xs->D8 20 #[Zg v.wd,C6 g xs q] X λe w'=>∃(o:An) (m:Zk) (p:Nat) (j:Zk) (l:Nat) (f:Zk) (i:Nat) (rs:Zj),e=C5 (ct #[Zg o.code,Zg o.wd,Zg o.F,Zg o.G,Zg o.E,C2 m o.B p,C2 j o.ps l,C2 f o.ls i,C4 o.sm,Zg o.le,C4 o.a,C4 o.b])/\Mw v.wd xs o/\Be w' X.1.size (C2 m o.B p) (C2 j o.ps l) (C2 f o.ls i) rs o.B o.ps o.ls/\Zz X w'):=λX g q h=>by
   refine(Lq v.wd _ h (by rw[c];omega) (λs t=>by rw[c]at t;rcases Bw.1 t with h|h;exact z.ss s h;exact z.C s h)).ai ?_;rintro e w' ⟨o,T,P,L,rs,t,rfl,hS,hb⟩;obtain⟨m,p,j,l,f,i,rfl,rfl,rfl,_⟩:=hS.rows;exact⟨o,m,p,j,l,f,i,rs,rfl,t,hS,hb⟩
  have zM:=Yw c;clear c;have HM:=Yw d.m;clear d;delta D8;go_in;go_wp2_with fail;rw[<-HW.o];refine S.Aj ?_;rintro e w1 ⟨rfl,c⟩;replace c:=c.symm;subst c;go_wp2_with fail;refine zB.Aj ?_;rintro e w1 ⟨rfl,c⟩;replace c:=c.symm;subst c;go_wp2_with fail;refine zE.Aj ?_;rintro e d ⟨rfl,s⟩;have y:=Aa.A HX s;have z2:w.1.size+1<=d.1.size:=gB;have yA:=Yw s;have zF:=Yw y;have R:=Yw (K.ag (s.ai K.size));clear M N O Q y4 y5 y6 y7 y8 y9 D E F G H I J S zB zE s HW;have⟨M,N,O,Q,_⟩:=Jb y;clear y;go_upto_region 3 with fail;generalize (ct (Xq v a):D4)=dv0;go_cut [3] (λu y=>∃(b:Nat) (o:An) (m j f:Zk) (p l i:Nat),u=Yy b/\Hid (Vv w y v a b o m j f p l i))
  case first=>
   have U:Hid (∀X,Zz d X->ek X (Zd (w.1.size) 0)=an (Zg v.wd)/\ek X (Zd (w.1.size) 2)=an (C2 a.Y v.ss a.sc)/\ek X (Zd (w.1.size) 3)=an (C2 a.V v.C a.T)):=λX x=>by have⟨u0,u1,u2,u3,_⟩:=Jb (Aa.A zF x);exact⟨u0,u2,u3⟩
   have HL:Hid (∀X,Zz d X->Zz W X):=gD;have D0:bs d.1.size d d.drew:=gB;have D1:∀o,Zz d (d.alloc o).drew:=gB;clear M N O Q;go_region_held3 (λX=>ek X (Zd (w.1.size) 0)=an (Zg v.wd)/\ek X (Zd (w.1.size) 2)=an (C2 a.Y v.ss a.sc)/\ek X (Zd (w.1.size) 3)=an (C2 a.V v.C a.T))
    (first
      |with_reducible exact U.o _ D0
      |with_reducible exact U.o _ (D1 _)
      |with_reducible exact U.o _ y
      |with_reducible exact U.o _ (y.alloc y.size _)
      |with_reducible exact U.o _ B
      |with_reducible exact U.o _ (B.alloc B.size _)
      |with_reducible exact U.o _ (B.ag ((BB Z _ _ _ _ _ _ _ _ _ _ _ _ _).A B.size gA)))
    (first
      |(go_at_call 21;guard_target=~D8 21 _ (drew (alloc d _)) _;refine Calls.mono (n (d.alloc (ca Yd 42)).drew (HL _ (D1 _))) ?_;rintro e x ⟨g,q,rfl,A,zG⟩;have y:bs d.1.size d x:=(D1 _).ag (zG.ai Yu);have V:=Ab.own A;clear A;have zA:Aa x d.1.size z12:=Aa.A (v:=Ze) (w:=(d.alloc (ca Yd 42))) (Aa.new d z12 42) (BO zG))
      |(go_at_call 21;guard_target=~D8 21 _ (drew d) _;refine Calls.mono (n d.drew (HL _ D0)) ?_;rintro e x ⟨g,q,rfl,A,zG⟩;have y:bs d.1.size d x:=D0.ag zG;have V:=Ab.own A;clear A;have nA:=y)
      |(go_at_call 20;have zH:=zA;refine Calls.mono (k x g q V) ?_;rintro e Z ⟨o,m,p,j,l,f,i,rs,rfl,t,A,Y⟩;have C:=Yw (Zn t A);clear t A V;have B:bs d.1.size d Z:=y.ag (Y.ai y.size);have zN:Aa Z d.1.size z12:=Aa.A (v:=Ze) zA Y;have zZ:d.1.size<x.1.size:=Aa.lt (v:=Ze) zA;have zC:d.1.size<=d.1.size:=Zx;have⟨⟨t0,q0⟩,⟨t1,q1⟩,⟨t2,q2⟩,⟨t3,q3⟩,⟨t4,q4⟩,⟨t5,q5⟩,⟨t6,q6⟩,⟨t7,q7⟩,⟨t8,q8⟩,⟨t9,q9⟩,⟨t10,q10⟩,t11,q11⟩:=Bv zN)
      |(go_at_call 20;guard_target=~D8 20 _ (alloc x _) _;refine Calls.mono (k (x.alloc (ca Yd 42)) g q (V.X (Zy))) ?_;rintro e Z ⟨o,m,p,j,l,f,i,rs,rfl,t,A,Y⟩;have C:=Yw (Zn t A);clear t A V;have B:bs d.1.size d Z:=(y.alloc y.size _).ag (Y.ai (by have:=y.size;simp;omega));have zO:Aa Z x.1.size z12:=Aa.A (v:=Ze) (w:=(x.alloc (ca Yd 42))) (Aa.new x z12 42) Y;have zC:d.1.size<=x.1.size:=y.size;have⟨⟨t0,q0⟩,⟨t1,q1⟩,⟨t2,q2⟩,⟨t3,q3⟩,⟨t4,q4⟩,⟨t5,q5⟩,⟨t6,q6⟩,⟨t7,q7⟩,⟨t8,q8⟩,⟨t9,q9⟩,⟨t10,q10⟩,t11,q11⟩:=Bv zO)
      |(go_at_call 20;have zH:=nA;refine Calls.mono (k x g q V) ?_;rintro e Z ⟨o,m,p,j,l,f,i,rs,rfl,t,A,Y⟩;have C:=Yw (Zn t A);clear t A V;have B:bs d.1.size d Z:=y.ag (Y.ai y.size);have nD:=nA))
   all_goals
    go_wp2_with fail;go_meet
   all_goals first
    |(have zH:=zN
      exact⟨d.1.size,o,m,j,f,p,l,i,rfl,Vv.fin (zM.o▸C.1) (λX t=>Be.get (C.2.S t Yt)) R B zF Yv zN zC⟩)
    |(have zH:=zO
      exact⟨x.1.size,o,m,j,f,p,l,i,rfl,Vv.fin (zM.o▸C.1) (λX t=>Be.get (C.2.S t Yu)) R B zF Yv zO zC⟩)
    |(have zH:=nD
      exact⟨Z.1.size,o,m,j,f,p,l,i,rfl,⟨Aa.new Z [Zg o.code,Zg o.wd,Zg o.F,Zg o.G,Zg o.E,C2 m o.B p,C2 j o.ps l,C2 f o.ls i,C4 o.sm,Zg o.le,C4 o.a,C4 o.b] 42,(Be.get C.2).X (Zy),zM.o▸C.1,Aa.A (Aa.A zF B) (Zy),(R.ag (B.ai R.size)).alloc (Zm R.size B.size) _⟩⟩)
  clear M N O Q n k;obtain⟨b,o,m,j,f,p,l,i,rfl,t⟩:=hcut;rcases t.rto with⟨zY,_⟩|⟨_,⟨n,A,ho⟩|⟨r,A,ho⟩⟩
  .exact absurd ⟨hwd,zX⟩ zY
  .have zI:o.code=7:=gA;obtain⟨m0,_⟩:=t.box 0 _ rfl;rw[zI]at m0;have V:=Yw t.cn;have zJ:Hid (¬BW v):=λ⟨r,h⟩=>DD.not hwd.1 hwd.2 A h.run;clear ho A t;go_wp2;go_ret;exact Av.no zJ V
  subst ho;obtain⟨u,⟨⟨m0,_⟩,⟨m1,_⟩,⟨m2,_⟩,⟨m3,_⟩,⟨m4,_⟩,⟨m5,_⟩,⟨m6,_⟩,m7,_⟩,⟨M,N,O,Q,y4,y5,y6,y7,y8,y9,D,E,F,G,H,I,J⟩,V⟩:=A.ok (DH hwd.1 hwd.2),YP t.box,Jb t.fy,Yw t.cn;have zT:=HR.st.ah V;obtain⟨zP,zK,X,zV⟩:=Yw (GP (dp ⟨rfl,rfl⟩) v.wd r.F r.G r.E v.J v.F v.G v.E m j f a.Q a.L a.K p l i a.W a.P a.O r.B v.B r.ps v.ps r.ls v.ls wc t.rows (zT.ai V.size) ⟨Dl u.bk.len,Dl u.np,Dl u.nl⟩ ⟨z.st.k,z.st.p,z.st.l⟩ (λk X=>Dl (u.cz k X)) z.st.r),Yw t.fy,Yw A,Yw u.aj;clear zT u t;go_wp2_with fail
  refine zP.Aj ?_;rintro e w5 ⟨bb,rfl,t,u⟩;have k:=Yw (V.ag (u.ai V.size));have x5:=Aa.A zK u;clear m0 m1 m2 m3 m4 m5 m6 m7 M N O Q y4 y5 y6 y7 y8 y9 D E F G H I J zP u A;cases bb with
  |false=>
   have zJ:Hid (¬BW v):=λ⟨r',h⟩=>by obtain rfl:=X.di h.run;have:=t.2 h.same;cases this
   clear t x5 zK;go_wp2;go_ret;exact Av.no zJ k
  |true=>
   obtain⟨A,M,N,O,Q,y4,y5,y6,y7,y8,y9,D,E,F,G,H,I,J⟩:=Yw (t.1 rfl),Jb x5;have u:=Yw (PW v.J v.F v.G v.E v.I v.N v.M v.ro (C2 a.Q v.B a.W) (C2 a.L v.ps a.P) (C2 a.K v.ls a.O) a.y a.j (HR.q.X k) (HR.m.X k) z.r HM (by have h1:=A.1.2.2.2;have h2:=zV.o;omega));clear t x5 zK;go_wp2_with fail;refine u.Aj ?_;rintro e w6 ⟨bb,rfl,t,zS⟩;have zU:=Yw (k.ag (zS.ai k.size));have HN:Hid (bb=bg↔BW v):=by have h1:=A.1.1;rw[<-h1]at t;refine⟨λh=>⟨r,hwd,hlim,hlog,X,A,t.1 h⟩,λ⟨r',h⟩=>t.2 h.round⟩
   clear M N O Q y4 y5 y6 y7 y8 y9 D E F G H I J u t zS;go_wp2;go_ret;exact⟨bb,rfl,HN,zU⟩
 |false=>
  rw[hlog]at zE;delta D8;go_in;go_wp2_with fail;rw[<-HW.o];refine S.Aj ?_;rintro e w1 ⟨rfl,c⟩;replace c:=c.symm;subst c;go_wp2_with fail;refine zB.Aj ?_;rintro e w1 ⟨rfl,c⟩;replace c:=c.symm;subst c;go_wp2_with fail;refine zE.Aj ?_;rintro e d ⟨rfl,s⟩;have R:=Yw (K.ag (s.ai K.size));clear M N O Q y4 y5 y6 y7 y8 y9 D E F G H I J;go_wp2;go_ret;exact Av.no (λ⟨r,h⟩=>by have:=h.log;rw[hlog]at this;cases this) R
theorem CT.io{g e c:Zk}{k j:Nat}{i:List (Kd×Value)}{f:Db}{d:Da}(h:CT w a b g e c k j i f d):Bo w w.1.size g e c (i.map (·.1)) f d:=⟨h.dt,h.gz,h.gw⟩
def ZSp(r:Rs)(xa:Zk)(_:Nat)(pa:Zk)(pc:Nat)(la:Zk)(lc:Nat)(X:Zh):Prop:=
 ∃base b zs,zs.map (·.1)=r.B/\CT X base b xa pa la pc lc zs r.ps r.ls
def KSp(v:Vd)(cs:Zj)(V:List Nat)(X:Zh):Prop:=
 ∃base b p l tc pc lc zs,cs=[Zg v.J,Zg v.F,Zg v.G,Zg v.E,cr (an ⟨b,0,ba⟩) (eh zs) tc,cr (an ⟨p,0,ba⟩) (eh v.ps) pc,cr (an ⟨l,0,ba⟩) (eh v.ls) lc]/\V=[l]/\zs.map (·.1)=v.B/\CT X base b (an ⟨b,0,ba⟩) (an ⟨p,0,ba⟩) (an ⟨l,0,ba⟩) pc lc zs v.ps v.ls
theorem EI.sz{c b:Int}{j:C9}{v:Db}{t:Da}{q:Int}{u:Zi}{m:Int}{f:Zi}{e:Zl}(n:1<=d)(h:∀k∈j,(k.sum.size:Int)=d)(g:EI d l c b j v t q s u m f e r):∀k∈r.B,(k.sum.size:Int)=d:=by
 rcases g with⟨rfl,_,p,o,y,z,g,rfl⟩|⟨_,_,i,rfl⟩|⟨_,_,rfl⟩|⟨_,_,p,o,rfl⟩|⟨_,_,rfl⟩|⟨_,B,rfl⟩|⟨_,_,_,rfl⟩
 .rcases g with⟨_,_,_,_,rfl,rfl⟩|⟨x,w,A,rfl,rfl⟩
  .exact h
  intro k a;rcases Bw.1 (Iq.1 a)with a|a
  .exact h k a
  rw[mem_singleton]at a;subst a;exact FM _ _ _ n
 .exact h
 .exact h
 .exact h
 .exact h
 .exact h
 exact λk a=>h k (filter_sublist.subset a)
theorem Adh{b:C9}(h:Oa f b):∀k∈b,∀s∈k.D,s≠⟨#[]⟩:=λk c x d e=>by have a:=BC (h k c);have⟨i,c⟩:=A9 d;have:=a.size c;rw[e]at this;have d:=a.lo;have g:((⟨#[]⟩:Zi).size:Int)=0:=rfl;omega
theorem Aei(e:Ed){a:Va}{H:Zk}(O:Nat)(h1:Bc w w.1.size a v)(h2:Jc w a v)(R:Dz v)(zE:Ab w w.1.size H e.rf)(zN:H=ba->eh e.rf=0/\O=0)(hl:eh e.rf<=1048576)(ht:e.tx.size<=ew)(hn:e.nm.size<=ew):
 D8 144 #[ct (Xq v a),ct (Ye e.kd e.s e.nm e.R e.tx H (eh e.rf) O)] w (SDb v e w):=by
 have hR:∀X,Zz w X->Bc X X.1.size a v:=λX m=>h1.X m;have hS:∀X,Zz w X->Ab X X.1.size H e.rf:=λX m=>zE.X m;have hP:BW v->∀X,Zz w X->Ky X a v:=λJ X m=>(h2.cp h1 R J).A m;refine Aeh v e _ _ _ _ _ _ _ _ _ _ _ _ _ _ _ _ _ H O (KSp v) ZSp w ⟨R.s,R.t⟩ (λX m=>DJ (hR X m) h2.cap R) ?_ (λX m=>Wq e.kd e.s e.nm e.R e.tx O v.wd (hS X m) hl ht hn) ?_ ?_ ?_ ?_ ?_ ?_ (λd X m=>IX e.kd e.s e.nm e.R e.tx H O e.rf v.wd X (hS X m) hl ht hn) ?_ ?_ ?_ ?_
 .intro J X m;refine(Gk v a X (hP J X m)).ai ?_;rintro o I ⟨S,U,T,P,L,Q,M,rs,rfl,F,h5,h4⟩;obtain⟨sb,n1,zW,rfl⟩:=h5 S Yu;obtain⟨ub,n2,zZ,rfl⟩:=h5 U Yu;obtain⟨qb,n3,zC,rfl⟩:=h5 Q Yu;obtain⟨mb,n4,zB,rfl⟩:=h5 M Yu;obtain⟨⟨_,_,e1,_⟩,⟨_,_,e2,_⟩,⟨_,_,e3,_⟩,_,_,e4,_⟩:=F.s.row,F.u.row,F.q.row,F.m.row;cases e1;cases e2;cases e3;cases e4;exact⟨sb,zW,ub,zZ,T,P,L,qb,zC,mb,zB,rs,rfl,F,h4⟩
 .intro J X m;have G:=hP J X m;refine(FK v.J v.F v.G v.E _ _ _ G.rows.st G.k G.p G.l G.nk G.np G.nl G.cz).ai ?_;rintro o I ⟨T,P,L,rs,rfl,u,J,t⟩;obtain⟨b,p,l,W,E,D,C,rfl,rfl,rfl,j,n,zK,zM⟩:=CT.of u J t.size;exact⟨_,[l],rfl,t,by simp;exact⟨zK,zM⟩,_,b,p,l,W,E,D,C,rfl,rfl,j,n⟩
 .rintro cs V X I ⟨f,b,p,l,W,E,D,C,rfl,rfl,j,n⟩ t;exact⟨f,b,p,l,W,E,D,C,rfl,rfl,j,n.A t⟩
 .rintro⟨r,d⟩ s cs V X m ⟨f,b,p,l,W,E,D,C,rfl,rfl,j,n⟩;have B:=d.dx;have zO:=d.same.1.1;have ha:=B.jt s ht;rw[<-j]at ha;rw[<-zO];refine(Lp W e.s e.nm O n ha (λk K=>B.cz k gA) (hS X m) zN).ai ?_;rintro o I ⟨N,⟨c,p',q',zF,rfl⟩|⟨g,b1,zX,zY,yA,zU,zV,zS,zT,q,rfl,zP,zH⟩⟩
  .rw[j]at zF;exact⟨N,_,rfl,dp ⟨c,p',q',zF,rfl⟩⟩
  rw[j]at q;exact⟨N,[_,_,_,_,_,_,_,_,_,_,_,_],rfl,eb ⟨g,zX,zY,zU,zV,zS,zT,q,rfl,f,b1,yA,zP,zH⟩⟩
 .rintro g Y Z pa E la D X ⟨r,d⟩ s q ⟨f,b,C,j,n⟩ cb I t N;have zA:=Adh (d.tok.step s q);exact⟨f,b,C,j,n.iw t (λz h=>zA z.1 (by rw[<-j];exact mem_map.2 ⟨z,h,rfl⟩)) N⟩
 .rintro g Y Z pa E la D X ⟨f,b,C,j,n⟩ I t;exact⟨f,b,C,j,n.A t⟩
 .rintro⟨r,d⟩ s _ g Y Z pa E la D X q ⟨f,b,C,j,n⟩;obtain⟨B,zA,K⟩:=d.dx.step s q,d.tok.step s q,n.dt;rw[j]at K;exact SQ v.wd g.F g.G g.E Z _ _ K B.bk.len (λi k hi=>zA k (Zs hi))
 .rintro⟨r,d⟩ s g Y Z pa E la D X q ⟨f,b,C,j,n⟩;have B:=d.dx.step s q;have z:=n.io;rw[j]at z;refine(Jm v.wd g.F g.G g.E Y pa la Z E D g.B g.ps g.ls X z (λA u=> ?_) (DF n.po) (DF n.lo) B.bk.len B.np B.nl B.cz).ai ?_
  .rcases n.tb with h|h
   .rw[h]at u;cases u;rw[<-j];exact n.z.some
   rw[<-j,h];intro i k hi;simp at hi
  rintro o I ⟨T,P,L,rs,rfl,u,_,t⟩;exact⟨T,P,L,rs,rfl,u,t⟩
 .rintro⟨r,d⟩ s g X T2 P2 L2 yC n2 qb zC mb zB q u hq hm;have B:=d.dx.step s q;obtain⟨za,zc,rfl⟩:=Au u.ak;obtain⟨ya,yc,rfl⟩:=Au u.pins;obtain⟨ka,kc,rfl⟩:=Au u.ax;refine(Ra v.wd g.F g.G g.E zc _ _ (e.held g) v.I v.N v.M v.ro qb mb zC zB u.get.k (Dl B.bk.len) hq.ia hm.ia R.r d.round.dw.nq).ai ?_;rintro o I ⟨x,cx,y,cy,rfl,o1,o2,_,t⟩;exact⟨t,_,_,rfl,Ak.own o1,Ak.own o2⟩
 .rintro⟨r,d⟩ g q;have zG:=d.wd.1;refine⟨λK he=> ?_,λhe=>Ku (eb (dp λA=> ?_))⟩
  .rcases q with⟨_,_,hl,hg,yB,b1,q,rfl⟩|⟨h,_⟩|⟨h,_⟩|⟨h,_⟩|⟨h,_⟩|⟨h,_⟩|⟨h,_⟩
   .have F:=FM e.tx e.rf v.wd zG;have zI:Bm e.tx e.rf v.wd=⟨#[]⟩:=he;rw[zI]at F;have h4:((⟨#[]⟩:Zi).size:Int)=0:=rfl;omega
   all_goals omega
  rw[he]at A;obtain⟨k,K,zJ⟩:=A;have F:=q.sz zG d.dx.bk.sz k K;rw[zJ]at F;have h4:((⟨#[]⟩:Zi).size:Int)=0:=rfl;omega
 rintro⟨r,d⟩;refine⟨d.same.1.1,?_⟩;have:=DQ d.log;rw[Am]at this;exact this
def PN(ps:List Pd):Prop:=∀p∈ps,p.name.size<=40
theorem PN.step{n o b:Int}{u:C9}{v:Da}{m:Int}{j:Zi}{i:Int}{d:Zi}{c:Zl}(h:PN k)(q:Cn m s j i d c n=bg)(l:EI n o e b u k v m s j i d c r):PN r.ps:=by
 have t:=(FN q).2.2.name;rcases l with⟨rfl,g,z,y,w,x,l,rfl⟩|⟨_,g,_,rfl⟩|⟨_,_,rfl⟩|⟨_,g,_,_,rfl⟩|⟨_,_,rfl⟩|⟨_,_,rfl⟩|⟨_,_,_,rfl⟩
 .exact h
 .intro p a;have f:p∈Bn k j s:=a;unfold Bn at f;rcases Bw.1 f with a|a
  .rcases Bw.1 a with a|a
   .exact h p (B6.1 a).1
   rw[mem_singleton.1 a];exact t
  exact h p (B6.1 a).1
 .exact λp a=>h p (B6.1 a).1
 .exact h
 .exact h
 .exact h
 exact h
theorem Cp.pn{c:Int}:∀{xs:Zl} {r r':Rs},Cp c r xs r'->PN r.ps->PN r'.ps
 |[],r,r',h,hr=>by obtain rfl:r'=r:=h;exact hr
 |x::xs,r,r',h,hr=>by obtain⟨d,a,b⟩:=h;exact Cp.pn b (hr.step (GN a.1).1 a.2)
theorem Vw{m a:Int}{h:C9}{g:Db}(c:Gn j m d a h g i)(f:RX j a h g i)(n:PN g)(u:j<=8):Ic h g i:=by
 obtain⟨o,q,r,t⟩:=c.aj,c.bk.len,c.np,c.nl;refine⟨⟨Yo,λk b=>by have:=c.bk.sz k b;unfold ew;omega,λk b=>by have:=c.cj k b;unfold ew;omega,λk b=>by have:=c.cz k b;unfold ew;omega,λk b s e=>by have:=f.rs k b s e;unfold ew;omega⟩,⟨Yo,λp e=>by have:=n p e;unfold ew;omega,λp e=>by have:=f.ie p e;unfold ew;omega⟩,⟨Yo,λl e=>by have:=f.iu l e;unfold ew;omega⟩,λk b=> ?_,Yv⟩;have:=f.b1 k b;simp[Lit.wf,IntKind.min,IntKind.max,IntKind.signed,IntKind.bits];omega
theorem BZ.ko(h:BZ v r):RX v.wd v.E v.B v.ps v.ls/\PN v.ps:=by have c:RX v.wd r.E r.B r.ps r.ls:=h.run.rx (DH h.wd.1 h.wd.2) ⟨by simp[r0],by simp[r0],by simp[r0],by simp[r0],by simp[r0]⟩;have b:=h.run.pn (by intro p g;cases g);have⟨⟨_,_,_,d⟩,e,a,f⟩:=h.same;rw[d,e,a,f]at c;rw[a]at b;exact⟨c,b⟩
theorem Vx{b:C9}(h:Oa d b)(f:∀k∈b,(k.sum.size:Int)=d):∀k∈b,JM k:=λk c=>by have a:=BC (h k c);refine⟨a.i,a.D,λs e=> ?_,by have:=f k c;have:=a.hi;omega⟩;have⟨i,c⟩:=A9 e;have:=a.size c;have:=a.hi;omega
structure Oc (v:Vd):Prop where
 fit:Dz v
 sm:∀k∈v.B,JM k
 st:Ic v.B v.ps v.ls
 lg:BG v.ss v.C=bg
 rq:eh v.H<=30000/\eh v.ms<=30000
theorem CM{a b:Zl}:BG a b=bg↔eh a+eh b<=4000/\∀s∈a++b,s.size<=5000:=by unfold BG;rw[Bool.and_eq_true,decide_eq_true_iff,all_eq_true];simp only[decide_eq_true_iff]
theorem Gj.lg{e:Ed}{d:Dd}(h:Gj v e d)(g:BG v.ss v.C=bg):BG d.v.ss d.v.C=bg:=by
 rcases h with⟨_,rfl⟩|⟨⟨r,l⟩,⟨c,a,b,_,rfl⟩|⟨n,i,rfl⟩⟩
 .rfl
 .exact g
 have j:=CM.1 g;have m:=i.2.2.2;refine CM.2 ⟨?_,λs k=> ?_⟩
 .show (eh v.ss)+eh (v.C++[e.cj v.wd])<=4000;rw[Am,length_singleton];omega
 have f:s∈v.ss++(v.C++[e.cj v.wd]):=k;rw[<-append_assoc]at f;rcases Bw.1 f with h|h
 .exact j.2 s h
 rw[mem_singleton.1 h];exact Ed.dv i.1
theorem Gj.ja{e:Ed}{d:Dd}(h:Gj v e d)(j:∀k∈v.B,JM k):∀k∈d.v.B,JM k:=by
 rcases h with⟨_,rfl⟩|⟨⟨r,g⟩,⟨c,a,b,_,rfl⟩|⟨l,f,rfl⟩⟩
 .intro k i;cases i
 .exact j
 exact Vx (g.tok.step f.1 f.2.1) (g.dx.step f.1 f.2.1).bk.sz
theorem Gj.rq{e:Ed}{d:Dd}(h:Gj v e d)(f:eh v.H<=30000/\eh v.ms<=30000):eh d.v.H<=30000/\eh d.v.ms<=30000:=by
 rcases h with⟨_,rfl⟩|⟨⟨r,i⟩,⟨c,a,b,_,rfl⟩|⟨g,k,rfl⟩⟩
 .exact⟨Aq _,Aq _⟩
 .exact f
 refine⟨?_,f.2⟩;show eh (shQ v.I g.B v.H v.ms (e.held g))<=_;have j:=i.round.dw.nq;unfold shQ;split
 .rw[Am,length_singleton];omega
 omega
theorem KP:Ic [] [] []:=⟨⟨Aq _,Yu,Yu,Yu,Yu⟩,⟨Aq _,Yu,Yu⟩,⟨Aq _,Yu⟩,Yu,Yu⟩
theorem Gj.jb{e:Ed}{d:Dd}(h:Gj v e d)(i:Ic v.B v.ps v.ls):Ic d.v.B d.v.ps d.v.ls:=by
 rcases h with⟨_,rfl⟩|⟨⟨r,f⟩,⟨c,a,b,_,rfl⟩|⟨j,g,rfl⟩⟩
 .exact KP
 .exact i
 exact Vw (f.dx.step g.1 g.2.1) (f.ko.1.step f.dx g.2.1) (f.ko.2.step g.1 g.2.1) f.wd.2
def RV(n:Nat)(w:Zh)(vs:Zj):Prop:=∃u,Oc u/\∀V X',(∀b∈V,b<n)->Tn V w X'->MB u X'.1.size X' vs
theorem RV.S{c:Zh}{a:Zj}(h:RV n w a)(j:Tn V w c)(g:∀b∈V,b<n):RV n c a:=by
 obtain⟨u,i,h⟩:=h;refine⟨u,i,λe f d hT=>h (V++e) f (λb e=> ?_) ((j.ai gA).ag (hT.ai gA))⟩;rcases Bw.1 e with h|h
 .exact g b h
 exact d b h
theorem RV.A{b:Zh}{a:Zj}(h:RV n w a)(c:Zz w b):RV n b a:=h.S (V:=[]) (Tn.of c) Yu
theorem RV.mono{a:Zj}(h:RV n w a)(f:m<=n):RV m w a:=by obtain⟨u,e,h⟩:=h;exact⟨u,e,λV c d=>h V c (λb c=>Zr (d b c) f)⟩
abbrev RV.ai:=@RV.mono
theorem RV.F{b:Zj}(h:RV n w b):∃u a,Oc u/\b=Bd u (C3 a.Y (eh u.ss) a.sc) (C3 a.V (eh u.C) a.T) (C3 a.Q (eh u.B) a.W) (C3 a.L (eh u.ps) a.P) (C3 a.K (eh u.ls) a.O) (C3 a.Z (eh u.H) a.y) (C3 a.g (eh u.ms) a.j)/\Bc w w.1.size a u/\Jc w a u:=by obtain⟨u,c,h⟩:=h;have⟨a,h⟩:=h [] w Yu (Tn.of Ae);exact gG
theorem RV.len{b:Zj}(h:RV n w b):eh b=17/\∀u∈b,u.oneCell'=bg:=by obtain⟨u,a,_,rfl,_⟩:=h.F;exact⟨rfl,by simp[Bd,oneCell']⟩
theorem AF.rv{a:Zh}{S:D4}{c:Zj}{u:Vd}(h:AF a w.1.size S U T P L Q M c u)(b:Oc u):RV w.1.size a (Bd u S U T P L Q M):=⟨u,b,h.jd (Zx) Ae⟩
def CS(p:Nat->Prop)(w:Zh)(vs:Zj):Prop:=∃u,Oc u/\∀V X',(∀b∈V,p b)->Tn V w X'->MB u X'.1.size X' vs
theorem CS.S{p:Nat->Prop}{c:Zh}{a:Zj}(h:CS p w a)(j:Tn V w c)(g:∀b∈V,p b):CS p c a:=by
 obtain⟨u,i,h⟩:=h;refine⟨u,i,λe f d hT=>h (V++e) f (λb e=> ?_) ((j.ai gA).ag (hT.ai gA))⟩;rcases Bw.1 e with h|h
 .exact g b h
 exact d b h
theorem CS.A{p:Nat->Prop}{b:Zh}{a:Zj}(h:CS p w a)(c:Zz w b):CS p b a:=h.S (V:=[]) (Tn.of c) Yu
theorem RV.p{p:Nat->Prop}{vs:Zj}(h:RV n w vs)(e:∀b,p b->b<n):CS p w vs:=by obtain⟨u,d,h⟩:=h;exact⟨u,d,λV a c=>h V a (λb a=>e b (c b a))⟩
theorem CS.zero{p:Nat->Prop}{a:Zj}(h:CS p w a):RV 0 w a:=by obtain⟨u,e,h⟩:=h;exact⟨u,e,λV c d hT=>h V c (λb c=>absurd (d b c) (Nat.not_lt_zero b)) hT⟩
def MF(w:Zh)(o:Ending)(w':Zh):Prop:=∃d vs,o=.returned (ct (ei (dL d vs)))/\RV w.1.size w' vs/\Zz w w'
theorem KQ{j:Zj}(e:Ed)(f:Zk)(i:Nat)(h:RV n w j)(g:Ab w w.1.size f e.rf)(k:f=ba->eh e.rf=0/\i=0)(r:eh e.rf<=1048576)(v:e.tx.size<=ew)(s:e.nm.size<=ew):
 D8 144 #[ct (ei j),ct (Ye e.kd e.s e.nm e.R e.tx f (eh e.rf) i)] w (MF w):=by
 obtain⟨u,a,c,rfl,m,p⟩:=h.F;refine(Aei e i m p c.fit g k r v s).ai ?_;rintro o x ⟨d,l,b,rfl,t,q⟩;exact⟨d,l,rfl,⟨d.v,⟨b.fit c.fit,b.ja c.sm,b.jb c.st,b.lg c.lg,b.rq c.rq⟩,t⟩,q⟩
theorem Hv{W:Zh}{d:Dd}{a:Zj}(l:w.1.size<=q)(k:q<W.1.size)(b:Zz w W)(j:Aa W q Fg)(h:RV W.1.size X a)(g:Zz W X):
 (eh (dL d a)=22/\∀u∈dL d a,u.oneCell'=bg)/\X.there q 0 (ei (dL d a)).size/\Aa (X.setCells q 0 (ei (dL d a)).toList) q (dL d a)/\MF w (.returned (ct (ei (dL d a)))) (X.setCells q 0 (ei (dL d a)).toList):=by
 obtain⟨f,i,c,e⟩:=My (d:=d) h.len,AD q (dL d a) 0 X,Aa.A (v:=Ze) j g,b.ag (g.ai b.size);refine⟨f,?_,c.aw _ Yt,d,a,rfl,(h.S i Yt).ai b.size,e.ag (i.A e.size Yt)⟩;rw[show(ei (dL d a)).size=22 from by rw[A0];exact f.1];exact c.there
theorem XP{A:Zj}(g s:Zi)(f:RV m w A)(n:g.size<=ew):
 D8 104 #[ct (ei A),C4 g,C4 s] w (MF w):=by
 have⟨W,a⟩:=Ag ((w.alloc (ca (ei A) 34)).alloc (ca Xk 166));have e:=(AQ a).1;have j:=(AQ a).2.1;have c:Hid (Aa W w.1.size A/\Aa W (w.1.size+1) Fg):=⟨(AQ a).2.2.1,(AQ (k:=Fg) a).2.2.2⟩;have l:Hid (eh A=17):=f.len.1;obtain⟨h,b,i⟩:=Yw (KQ ⟨2,s,g,0,⟨#[]⟩,[]⟩ ba 0 (f.A e) (dp rfl) (λ_=>⟨rfl,rfl⟩) Yu (Aq _) n),Yw (Zn e j),Yw a;clear a f e j;delta D8;go_in;go_upto_region 1 with fail;rw[<-i.o];clear i;go_wp2_with (refine wpList_load_mid rfl 34 _ rfl w.1.size 0 rfl A _ c.1.range underlying34 rfl (by rw[l.o];kernel_rfl) ?_);refine h.Aj ?_;rintro o j ⟨d,i,rfl,f,e⟩;have a:=Yw (Hv (d:=d) (Nat.le_succ _) (Dl b.2) b.1 c.2 f e);clear h b c f e;have⟨D,b⟩:=Ag (dL d i);rw[<-b]at a;rw[<-b];clear b;go_wp2_with (refine wpList_store_mid rfl 166 _ _ rfl (w.1.size+1) 0 (ei D) rfl rfl a.2.1 J4 (all_oneCell_toArray a.1.2) ?_);exact bodyPost_ret (AM results104 _ _ (w.1.size+1) D _ rfl (Aa.range a.2.2.1) underlying166 rfl K9) rfl a.2.2.2
theorem Tx{A:Zj}(g:Zi)(f:RV m w A)(n:g.size<=ew):
 D8 106 #[ct (ei A),C4 g] w (MF w):=by
 have⟨W,a⟩:=Ag ((w.alloc (ca (ei A) 34)).alloc (ca Xk 166));have e:=(AQ a).1;have j:=(AQ a).2.1;have c:Hid (Aa W w.1.size A/\Aa W (w.1.size+1) Fg):=⟨(AQ a).2.2.1,(AQ (k:=Fg) a).2.2.2⟩;have l:Hid (eh A=17):=f.len.1;obtain⟨h,b,i⟩:=Yw (KQ ⟨3,⟨#[]⟩,g,0,⟨#[]⟩,[]⟩ ba 0 (f.A e) (dp rfl) (λ_=>⟨rfl,rfl⟩) Yu (Aq _) n),Yw (Zn e j),Yw a;clear a f e j;delta D8;go_in;go_upto_region 1 with fail;rw[<-i.o];clear i;go_wp2_with (refine wpList_load_mid rfl 34 _ rfl w.1.size 0 rfl A _ c.1.range underlying34 rfl (by rw[l.o];kernel_rfl) ?_);refine h.Aj ?_;rintro o j ⟨d,i,rfl,f,e⟩;have a:=Yw (Hv (d:=d) (Nat.le_succ _) (Dl b.2) b.1 c.2 f e);clear h b c f e;have⟨D,b⟩:=Ag (dL d i);rw[<-b]at a;rw[<-b];clear b;go_wp2_with (refine wpList_store_mid rfl 166 _ _ rfl (w.1.size+1) 0 (ei D) rfl rfl a.2.1 J4 (all_oneCell_toArray a.1.2) ?_);exact bodyPost_ret (AM results106 _ _ (w.1.size+1) D _ rfl (Aa.range a.2.2.1) underlying166 rfl K9) rfl a.2.2.2
theorem Tz{A:Zj}(s:Zi)(n:Int)(f:RV m w A):
 D8 107 #[ct (ei A),C4 s,Zg n] w (MF w):=by
 have⟨W,a⟩:=Ag ((w.alloc (ca (ei A) 34)).alloc (ca Xk 166));have e:=(AQ a).1;have i:=(AQ a).2.1;have c:Hid (Aa W w.1.size A/\Aa W (w.1.size+1) Fg):=⟨(AQ a).2.2.1,(AQ (k:=Fg) a).2.2.2⟩;have j:Hid (eh A=17):=f.len.1;have g:=Yw (KQ ⟨4,s,⟨#[]⟩,n,⟨#[]⟩,[]⟩ ba 0 (f.A e) (dp rfl) (λ_=>⟨rfl,rfl⟩) Yu (Aq _) (Aq _));have b:=Yw (Zn e i);have h:=Yw a;clear a f e i;delta D8;go_in;go_upto_region 1 with fail;rw[<-h.o];clear h;go_wp2_with (refine wpList_load_mid rfl 34 _ rfl w.1.size 0 rfl A _ c.1.range underlying34 rfl (by rw[j.o];kernel_rfl) ?_);refine g.Aj ?_;rintro o i ⟨d,h,rfl,f,e⟩;have a:=Yw (Hv (d:=d) (Nat.le_succ _) (Dl b.2) b.1 c.2 f e);clear g b c f e;have⟨D,b⟩:=Ag (dL d h);rw[<-b]at a;rw[<-b];clear b;go_wp2_with (refine wpList_store_mid rfl 166 _ _ rfl (w.1.size+1) 0 (ei D) rfl rfl a.2.1 J4 (all_oneCell_toArray a.1.2) ?_);exact bodyPost_ret (AM results107 _ _ (w.1.size+1) D _ rfl (Aa.range a.2.2.1) underlying166 rfl K9) rfl a.2.2.2
theorem Qo{A:Zj}(n:Int)(f:RV m w A):
 D8 108 #[ct (ei A),Zg n] w (MF w):=by
 have⟨W,a⟩:=Ag ((w.alloc (ca (ei A) 34)).alloc (ca Xk 166));have e:=(AQ a).1;have i:=(AQ a).2.1;have c:Hid (Aa W w.1.size A/\Aa W (w.1.size+1) Fg):=⟨(AQ a).2.2.1,(AQ (k:=Fg) a).2.2.2⟩;have j:Hid (eh A=17):=f.len.1;have g:=Yw (KQ ⟨5,⟨#[]⟩,⟨#[]⟩,n,⟨#[]⟩,[]⟩ ba 0 (f.A e) (dp rfl) (λ_=>⟨rfl,rfl⟩) Yu (Aq _) (Aq _));have b:=Yw (Zn e i);have h:=Yw a;clear a f e i;delta D8;go_in;go_upto_region 1 with fail;rw[<-h.o];clear h;go_wp2_with (refine wpList_load_mid rfl 34 _ rfl w.1.size 0 rfl A _ c.1.range underlying34 rfl (by rw[j.o];kernel_rfl) ?_);refine g.Aj ?_;rintro o i ⟨d,h,rfl,f,e⟩;have a:=Yw (Hv (d:=d) (Nat.le_succ _) (Dl b.2) b.1 c.2 f e);clear g b c f e;have⟨D,b⟩:=Ag (dL d h);rw[<-b]at a;rw[<-b];clear b;go_wp2_with (refine wpList_store_mid rfl 166 _ _ rfl (w.1.size+1) 0 (ei D) rfl rfl a.2.1 J4 (all_oneCell_toArray a.1.2) ?_);exact bodyPost_ret (AM results108 _ _ (w.1.size+1) D _ rfl (Aa.range a.2.2.1) underlying166 rfl K9) rfl a.2.2.2
theorem XQ{A:Zj}(n:Int)(f:RV m w A):
 D8 110 #[ct (ei A),Zg n] w (MF w):=by
 have⟨W,a⟩:=Ag ((w.alloc (ca (ei A) 34)).alloc (ca Xk 166));have e:=(AQ a).1;have i:=(AQ a).2.1;have c:Hid (Aa W w.1.size A/\Aa W (w.1.size+1) Fg):=⟨(AQ a).2.2.1,(AQ (k:=Fg) a).2.2.2⟩;have j:Hid (eh A=17):=f.len.1;have g:=Yw (KQ ⟨6,⟨#[]⟩,⟨#[]⟩,n,⟨#[]⟩,[]⟩ ba 0 (f.A e) (dp rfl) (λ_=>⟨rfl,rfl⟩) Yu (Aq _) (Aq _));have b:=Yw (Zn e i);have h:=Yw a;clear a f e i;delta D8;go_in;go_upto_region 1 with fail;rw[<-h.o];clear h;go_wp2_with (refine wpList_load_mid rfl 34 _ rfl w.1.size 0 rfl A _ c.1.range underlying34 rfl (by rw[j.o];kernel_rfl) ?_);refine g.Aj ?_;rintro o i ⟨d,h,rfl,f,e⟩;have a:=Yw (Hv (d:=d) (Nat.le_succ _) (Dl b.2) b.1 c.2 f e);clear g b c f e;have⟨D,b⟩:=Ag (dL d h);rw[<-b]at a;rw[<-b];clear b;go_wp2_with (refine wpList_store_mid rfl 166 _ _ rfl (w.1.size+1) 0 (ei D) rfl rfl a.2.1 J4 (all_oneCell_toArray a.1.2) ?_);exact bodyPost_ret (AM results110 _ _ (w.1.size+1) D _ rfl (Aa.range a.2.2.1) underlying166 rfl K9) rfl a.2.2.2
theorem Aba{A:Zj}(b:Zi){f:Zk}(i:Nat){a:Zl}(n:Int)(J:RV m w A)(q:Ab w w.1.size f a)(B:f=ba->eh a=0/\i=0)(O:eh a<=1048576)(ht:b.size<=ew):
 D8 102 #[ct (ei A),ct #[C4 b,C3 f (eh a) i],Zg n] w (MF w):=by
 have N:=J.len.1;have s:∀X,Zz w X->D8 84 #[ct #[C4 b,C2 f a i]] X λo j=>∃g c,o=C5 (ct #[C4 b,C6 g a c])/\Ab j j.1.size (an ⟨g,0,ba⟩) a/\Zz X j:=λX I=>(Gz b i (q.X I) B O).ai (λo j ⟨g,c,h,ho,z⟩=>⟨g,c,h,Ab.own ho,z⟩);have x:∀X g c,Zz w X->Ab X X.1.size (an ⟨g,0,ba⟩) a->D8 144 #[ct (ei A),ct (Ye 1 ⟨#[]⟩ ⟨#[]⟩ n b (an ⟨g,0,ba⟩) (eh a) c)] X (MF X):=λX g c I hg=>KQ ⟨1,⟨#[]⟩,⟨#[]⟩,n,b,a⟩ (an ⟨g,0,ba⟩) c (J.A I) hg (λe=>by cases e) O ht (Aq _);have⟨W,p⟩:=Ag (((w.alloc (ca (ei A) 34)).alloc (ca #[C4 b,C2 f a i] 76)).alloc (ca Xk 166));have M:=(BI p).1;have T:=(BI p).2.1;have G:Hid (Aa W w.1.size A/\Aa W (w.1.size+1) [C4 b,C2 f a i]/\Aa W (w.1.size+2) Fg):=⟨(BI p).2.2.1,(BI p).2.2.2.1,(BI (m:=Fg) p).2.2.2.2⟩;have y:Hid (eh A=17):=N;have v:=Yw (Zn M T);have L:=Yw p;have Z:=Yw s;have H2:=Yw x;have C:Hid (∀X j,(Aa X w.1.size A/\Aa X (w.1.size+1) [C4 b,C2 f a i])->Zz X j->Aa j w.1.size A/\Aa j (w.1.size+1) [C4 b,C2 f a i]):=λX j s x=>⟨Aa.same s.1 (x.block _ (s.1.jw y)),Aa.A s.2 x⟩;clear p N s x M T J q;delta D8;go_in;go_upto_region 1 with fail;rw[<-L.o];clear L;refine wp_region_held_drew (S:=λX=>Aa X w.1.size A/\Aa X (w.1.size+1) [C4 b,C2 f a i]) Yr (show _/\_ from⟨G.1,G.2.1⟩) (λhS=> ?_);refine Gd 0 (ct (ei A)) rfl (by exact yieldsIf_load_mid Yp 34 _ rfl w.1.size 0 rfl A _ (λX h=>h.1.range) underlying34 rfl (by rw[y.o];kernel_rfl)) ?_;refine Cb 1 (Zg n) ?_;refine Gd 2 (ct #[C4 b,C2 f a i]) rfl (by exact yieldsIf_load_mid Yp 76 _ rfl (w.1.size+1) 0 rfl [C4 b,C2 f a i] _ (λX h=>h.2.range) underlying76 rfl Yr) ?_;refine CX 3 (λK k=> ?_);go_simp;refine(Z W.drew (v.1.drew)).ai ?_;rintro o Q ⟨g,c,rfl,Y,E⟩;have r:bs W.1.size W Q:=(Below.refl W.1.size W).drew.ag E;try go_simp
 refine k.out _ _ (C _ _ hS E) (λV=> ?_);clear k K;refine Cb 4 (ct (Ye 1 ⟨#[]⟩ ⟨#[]⟩ n b (an ⟨g,0,ba⟩) (eh a) c)) ?_;refine CX 5 (λK k=> ?_);go_simp;refine(H2 Q g c (v.1.ag (r.ai v.1.size)) Y).ai ?_;rintro o R ⟨d,vs,rfl,F,z⟩;have U:bs W.1.size W R:=r.ag (z.ai r.size);have l:=Yw (Hv (d:=d) Yv (Dl v.2) v.1 G.2.2 (F.ai r.size) U);have⟨D,H⟩:=Ag (dL d vs);rw[<-H]at l;rw[<-H];clear H F;try go_simp
 refine k.out _ _ (C _ _ V z) (λu=> ?_);clear k K;have P:=AD (w.1.size+2) D 0 R;refine CX 6 (λK k=> ?_);rw[if_pos Yp];refine wp_store_mid 166 _ _ rfl (w.1.size+2) 0 (ei D) rfl rfl l.2.1 (by rw[A0,l.1.1];kernel_rfl) (all_oneCell_toArray l.1.2) ?_;refine k.out _ _ ⟨Aa.same u.1 (P.block _ (u.1.jw y) Yu),Aa.same u.2 (P.block _ u.2.lt Yu)⟩ (λzA=> ?_);clear k K;try simp only[Act.put]
 refine wpAnyH_done Yr ?_ _;go_wp2_with fail;exact bodyPost_ret (AM results102 _ _ (w.1.size+2) D _ rfl (Aa.range l.2.2.1) underlying166 rfl (by rw[l.1.1];kernel_rfl)) rfl l.2.2.2
def JF(wd lim:Int)(ss tt:Zl)(o:An):Vd:=⟨wd,lim,ss,tt,o.wd,o.F,o.G,o.E,o.B,o.ps,o.ls,0,[],[],0,0,0⟩
theorem XR{a lim:Int}{b c:Zl}(d:((1<=a/\a<=8)/\(0<=lim/\lim<=1000000)/\BG b c=bg))(h:Mw a (b++c) o):(o.code≠0/\Dp a lim b c 2 v0)\/(o.code=0/\Dp a lim b c 0 (JF a lim b c o)):=by
 rcases h with⟨h,_⟩|⟨_,⟨n,h,rfl⟩|⟨r,h,rfl⟩⟩
 .exact absurd ⟨d.1,DQ d.2.2⟩ h
 .exact dp ⟨Yu,eb ⟨d,dp ⟨⟨n,h⟩,rfl,rfl⟩⟩⟩
 exact eb ⟨rfl,eb ⟨d,eb ⟨r,h,rfl,rfl⟩⟩⟩
theorem Vy{j a d:Zh}{q:Zj}{x y k l:Nat}{s:Int}{b c:Zl}(m:Be a j.1.size T P L q o.B o.ps o.ls)(t:Zz a d)(p:eo d a.1.size 9 1 (Yz x (eh b) k) (eh b) (b.map string))(i:eo d a.1.size 9 1 (Yz y (eh c) l) (eh c) (c.map string))(r:x≠y)(e:j.1.size<=a.1.size):
 AF d j.1.size (Yz x (eh b) k) (Yz y (eh c) l) T P L Zb Zb q (JF u s b c o):=by
 obtain⟨f,v,w⟩:=m.A t,(p.lt x rfl).1,(i.lt y rfl).1;refine⟨Ak.own (p.ai e),Ak.own (i.ai e),f,Ak.nil _ _,Ak.nil _ _,?_⟩;have n:=f.nd;rw[FG]at n;have g:=m.db;unfold Df;simp only[Al,Option.toList_some,Option.toList_none,append_nil,singleton_append];refine nodup_cons.2 ⟨λh=> ?_,nodup_cons.2 ⟨λh=> ?_,n⟩⟩
 .rcases Cf.1 h with h|h
  .exact r h
  have:=g x h;omega
 have:=g y h;omega
theorem Od(j lim:Int){a:Zk}(b:Zk)(c d:Nat){f:Zl}(i:Zl)(m:Ab w w.1.size a f)(l:Ab w w.1.size b i)(ha:a=ba->eh f=0/\c=0)(hb:b=ba->eh i=0/\d=0)(hl:eh f<=1048576)(zF:eh i<=1048576)(u:∀s∈f,s.size<=1048576)(x:∀s∈i,s.size<=1048576):
 D8 66 #[Zg j,Zg lim,ct #[C3 a (eh f) c,C3 b (eh i) d]] w (Acz j lim f i w):=by
 have⟨W,k⟩:=Ag ((w.alloc (ca #[C2 a f c,C2 b i d] 25)).alloc (ca Xo 34));obtain⟨J,zW,n⟩:=(AQ k).1,(AQ k).2.1,(AQ k).2.2.1;have p:Aa W (w.1.size+1) Xn:=G8;have D:Hid (Aa W _ _):=(AQ k).2.2.1;have F:Hid (Aa W (w.1.size+1) Xn):=p;have Z:Hid (∀X,Zz w X->Ab X X.1.size a f/\Ab X X.1.size b i):=λX C=>⟨m.X C,l.X C⟩;obtain⟨y,I,Q,V⟩:=Yw k,Yw (EX j W),Yw (CY lim 0 1000000 W),Yw (EE b c d i J.size (m.A J) (l.A J) hl zF u x);obtain⟨z,B⟩:=Aa.c2 n 0 1;clear k n p m l;delta D8;go_in;go_wp2_with fail;rw[<-y.o];refine I.Aj ?_;rintro e w1 ⟨rfl,G⟩;replace G:=G.symm;subst G;by_cases hwd:1<=j/\j<=8
 case' neg=>
  rw[decide_eq_false hwd];have zA:Hid (Dp j lim f i 1 v0):=dp ⟨λh=>hwd h.1,rfl,rfl⟩;have U:Hid (Aa _ _ _):=F.o;have R:Hid (bs _ _ _):=J;clear z B D;obtain⟨X,rfl⟩:=Ag W
 case' pos=>
  rw[decide_eq_true hwd];go_wp2_with fail;refine Q.Aj ?_;rintro e w1 ⟨rfl,G⟩;replace G:=G.symm;subst G;by_cases hlim:0<=lim/\lim<=1000000
  case' neg=>
   rw[decide_eq_false hlim];have zA:Hid (Dp j lim f i 1 v0):=dp ⟨λh=>hlim h.2.1,rfl,rfl⟩;have U:Hid (Aa _ _ _):=F.o;have R:Hid (bs _ _ _):=J;clear z B D;obtain⟨X,rfl⟩:=Ag W
  case' pos=>
   rw[decide_eq_true hlim];go_wp2_with fail;refine V.Aj ?_;rintro e O ⟨rfl,r⟩;cases hlog:BG f i
   case' false=>
    have zA:Hid (Dp j lim f i 1 v0):=dp ⟨λh=>by rw[hlog]at h;exact absurd h.2.2 Yu,rfl,rfl⟩;have U:Hid (Aa O (w.1.size+1) Xn):=Aa.A (v:=Ze) F r;have R:Hid (Zz w O):=J.ag (r.ai J.size);clear z B r D;obtain⟨X,rfl⟩:=Ag O
   case' true=>
    obtain⟨yC,N,t⟩:=DQ hlog,Ag (f++i);have HA:Hid (∀X,Zz w X->D8 21 #[ct #[C2 a f c,C2 b i d]] X λe H=>∃g E,e=C5 (C6 g N E)/\eo H X.1.size 9 1 (C6 g N E) (eh N) (N.map string)/\Zz X H):=λX C=>by rw[t];exact NR c d (Z X C).1 (Z X C).2 ha hb hl zF
    have HS:Hid (∀(X:Zh) (g E:Nat),Ab X X.1.size (an ⟨g,0,ba⟩) N->D8 20 #[Zg j,C6 g N E] X λe H=>∃(o:An) (p:Zk) (q:Nat) (m:Zk) (n:Nat) (k:Zk) (l:Nat) (M:Zj),e=C5 (ct #[Zg o.code,Zg o.wd,Zg o.F,Zg o.G,Zg o.E,C2 p o.B q,C2 m o.ps n,C2 k o.ls l,C4 o.sm,Zg o.le,C4 o.a,C4 o.b])/\Mw j (f++i) o/\Be H X.1.size (C2 p o.B q) (C2 m o.ps n) (C2 k o.ls l) M o.B o.ps o.ls/\Zz X H):=λX g E h=>by
     refine(Lq j _ h (by rw[t];omega) (λs A=>by rw[t]at A;rcases Bw.1 A with h|h;exact u s h;exact x s h)).ai ?_;rintro e H ⟨o,T,P,L,M,A,rfl,hS,hb⟩;obtain⟨p,q,m,n,k,l,rfl,rfl,rfl,_⟩:=hS.rows;exact⟨o,p,q,m,n,k,l,M,rfl,t▸A,hS,hb⟩
    have HG:=Yw (Za hwd (Za hlim hlog));clear u x t;have u:=Aa.A D r;have s:=Yw u;have x:Hid (Aa O (w.1.size+1) Xn):=Aa.A (v:=Ze) F r;have z2:w.1.size+2<=O.1.size:=Dl r.size;have t:Hid (Zz w O):=J.ag (r.ai J.size);clear z B I Q V r y D F;obtain⟨z,B⟩:=Aa.c2 u 0 1;clear u;go_wp2_with fail;refine(HA O t).ai ?_;rintro e Q ⟨g,E,rfl,D,r⟩;have u:Hid (Aa Q w.1.size [C2 a f c,C2 b i d]):=Aa.A s r;have K:Hid (Aa Q (w.1.size+1) Xn):=Aa.A (v:=Ze) x r;have z3:=r.size;have V:Hid (Zz w Q):=t.ag (r.ai t.size);have zS:=Ab.own D;clear z B r s x t D;go_wp2_with fail;refine(HS Q g E zS).ai ?_;rintro e w4 ⟨o,p,q,m,n,k,l,M,rfl,A,Y,I⟩;obtain⟨z4,r,F⟩:=I.size,D6 w4 #[Zg o.code,Zg o.wd,Zg o.F,Zg o.G,Zg o.E,C2 p o.B q,C2 m o.ps n,C2 k o.ls l,C4 o.sm,Zg o.le,C4 o.a,C4 o.b] 42;have D:=(Ax F).1;have yD:=(Ax F).2.1;have zE:Hid (Aa r _ _):=(Ax F).2.2;have zC:Hid (Aa r w.1.size [C2 a f c,C2 b i d]):=Aa.A (Aa.A u I) D;have zN:Hid (Aa r (w.1.size+1) Xn):=Aa.A (v:=Ze) (Aa.A (v:=Ze) K I) D;have B:Hid (Zz w r):=(V.ag (I.ai V.size)).ag (D.ai (Zm V.size z4));have zK:Hid (Be r Q.1.size (C2 p o.B q) (C2 m o.ps n) (C2 k o.ls l) M o.B o.ps o.ls):=Y.A D;have zG:Hid (Q.1.size<=r.1.size):=(by show Q.1.size<=r.1.size;omega);have HC:Hid (∀X,Zz r X->D8 99 #[ct #[C2 a f c,C2 b i d]] X λe H=>∃x t y z,e=C5 (ct #[C6 x f t,C6 y i z])/\eo H X.1.size 9 1 (C6 x f t) (eh f) (f.map string)/\eo H X.1.size 9 1 (C6 y i z) (eh i) (i.map string)/\x≠y/\Zz X H):=λX C=>NQ c d (Z X (B.ag (C.ai B.size))).1 (Z X (B.ag (C.ai B.size))).2 ha hb hl zF;obtain⟨⟨⟨yA,_⟩,_⟩,zB,s⟩:=YP zE,Yw (XR (lim:=lim) HG A),Yw F;clear A Y I D F u K V HA HS Z HG zS;rcases zB.o with⟨F,A⟩|⟨F,A⟩
    case' inr=>
     have zX:(o.code==0)=bg:=D2 F;have zY:(o.code !=0)=bq:=D2 F;have zH:Hid (Dp j lim f i 0 (JF j lim f i o)):=A;clear zB A F;have zM:Hid (∀X,Zz r X->X.rangeAt w.1.size 0 [C2 a f c,C2 b i d]/\X.rangeAt w4.1.size 1 (C7 o.wd o.F o.G o.E p o.B q m o.ps n k o.ls l)):=λX C=>⟨(Aa.A zC C).range,Aa.dq [Zg o.code] (C7 o.wd o.F o.G o.E p o.B q m o.ps n k o.ls l) [C4 o.sm,Zg o.le,C4 o.a,C4 o.b] (Aa.A zE C)⟩;go_upto_region 6 with fail;rw[<-s.o];clear s yA;go_cut [7] (λu C=>u=Zg 0/\∃x t y z,Hid (Aa C (w.1.size+1) [Zg j,Zg lim,C6 x f t,C6 y i z,Zg o.wd,Zg o.F,Zg o.G,Zg o.E,C2 p o.B q,C2 m o.ps n,C2 k o.ls l,Ze,Zb,Zb,Ze,Ze,Ze]/\Zz w C/\AF C w.1.size (C6 x f t) (C6 y i z) (C2 p o.B q) (C2 m o.ps n) (C2 k o.ls l) Zb Zb M (JF j lim f i o)))
     case first=>
      refine wp_region_held_drew (S:=λX=>X.rangeAt w.1.size 0 [C2 a f c,C2 b i d]/\X.rangeAt w4.1.size 1 (C7 o.wd o.F o.G o.E p o.B q m o.ps n k o.ls l)) Yr (zM _ Ae.drew) (λhS=> ?_);refine Cb 0 (Zg j) ?_;try simp only[Act.put]
      refine Cb 1 (Zg lim) ?_;try simp only[Act.put]
      refine Gd 2 (ct #[C2 a f c,C2 b i d]) rfl (by exact yieldsIf_load_mid Yp 25 _ rfl (w.1.size) 0 rfl [C2 a f c,C2 b i d] _ (λX h=>h.1) underlying25 rfl Yr) ?_;try simp only[Act.put]
      refine Cb 4 (Yx w4.1.size 1) ?_;try simp only[Act.put]
      refine Gd 5 (ct (C8 o.wd o.F o.G o.E p o.B q m o.ps n k o.ls l)) rfl (by exact yieldsIf_load_mid Yp 30 _ rfl (w4.1.size) 1 rfl (C7 o.wd o.F o.G o.E p o.B q m o.ps n k o.ls l) _ (λX h=>h.2) underlying30 rfl Yr) ?_;try simp only[Act.put]
      refine CX 3 (λK Y=> ?_);go_simp;refine(HC r.drew Ae.drew).ai ?_;rintro e u ⟨x,t,y,z,rfl,zZ,zJ,zI,zV⟩;have V:bs r.1.size r u:=(Below.refl r.1.size r).drew.ag zV;try go_simp
      refine Y.out _ _ (zM u V) (λC=> ?_);clear Y K;try simp only[Act.put]
      refine Cb 6 (ct #[Zg j,Zg lim,C6 x f t,C6 y i z,Zg o.wd,Zg o.F,Zg o.G,Zg o.E,C2 p o.B q,C2 m o.ps n,C2 k o.ls l,Ze,Zb,Zb,Ze,Ze,Ze]) ?_;try simp only[Act.put]
      refine CX 7 (λK Y=> ?_);have zP:AF u Q.1.size (C6 x f t) (C6 y i z) (C2 p o.B q) (C2 m o.ps n) (C2 k o.ls l) Zb Zb M (JF j lim f i o):=Vy zK V zZ zJ zI zG;have D:(#[Zg j,Zg lim,C6 x f t,C6 y i z,Zg o.wd,Zg o.F,Zg o.G,Zg o.E,C2 p o.B q,C2 m o.ps n,C2 k o.ls l,Ze,Zb,Zb,Ze,Ze,Ze]:Array Value).all (·.oneCell')=bg:=G3;have zO:Aa u (w.1.size+1) Xn:=Aa.A (v:=Ze) zN V;have⟨I,C⟩:=Ag (u.setCells (w.1.size+1) 0 [Zg j,Zg lim,C6 x f t,C6 y i z,Zg o.wd,Zg o.F,Zg o.G,Zg o.E,C2 p o.B q,C2 m o.ps n,C2 k o.ls l,Ze,Zb,Zb,Ze,Ze,Ze]);have x9:Aa I (w.1.size+1) [Zg j,Zg lim,C6 x f t,C6 y i z,Zg o.wd,Zg o.F,Zg o.G,Zg o.E,C2 p o.B q,C2 m o.ps n,C2 k o.ls l,Ze,Zb,Zb,Ze,Ze,Ze]:=(by rw[C];exact zO.aw _ rfl);have t9:Tn [w.1.size+1] u I:=(by rw[C];exact AD _ _ _ _);have z5:=V.size;have B9:bs w.1.size w I:=(B.ag (V.ai B.size)).ag (t9.A (Dl B.size) Yu);have zU:AF I w.1.size (C6 x f t) (C6 y i z) (C2 p o.B q) (C2 m o.ps n) (C2 k o.ls l) Zb Zb M (JF j lim f i o):=(zP.stays t9 (λg hg Z=>by have:=zP.lo g Z;simp at hg;omega)).ai Yv;have Z:=Yw (Zn x9 (Zn B9 zU));have zT:I.rangeAt w.1.size 0 [C2 a f c,C2 b i d]/\I.rangeAt w4.1.size 1 (C7 o.wd o.F o.G o.E p o.B q m o.ps n k o.ls l):=⟨(Aa.same (Aa.A zC V) (t9.block _ Yv Yu)).range,Aa.dq [Zg o.code] (C7 o.wd o.F o.G o.E p o.B q m o.ps n k o.ls l) [C4 o.sm,Zg o.le,C4 o.a,C4 o.b] (Aa.same (Aa.A zE V) (t9.block _ Yv Yt))⟩;rw[if_pos Yp];refine wp_store_mid 34 _ _ rfl (w.1.size+1) 0 #[Zg j,Zg lim,C6 x f t,C6 y i z,Zg o.wd,Zg o.F,Zg o.G,Zg o.E,C2 p o.B q,C2 m o.ps n,C2 k o.ls l,Ze,Zb,Zb,Ze,Ze,Ze] rfl rfl zO.there Yr D ?_;try rw[<-C]
      refine Y.out _ _ zT (λyB=> ?_);clear Y K;try simp only[Act.put]
      refine Cb 8 Ze ?_;try simp only[Act.put]
      refine wpAnyH_done Yr ?_ _;go_wp2_with fail;go_meet;exact⟨rfl,x,t,y,z,Z.1,Z.2⟩
     obtain⟨rfl,x,t,y,z,K⟩:=hcut;have x9:=K.1;go_wp2;refine bodyPost_ret (Eh results66 _ _ (w.1.size+1) [Zg j,Zg lim,C6 x f t,C6 y i z,Zg o.wd,Zg o.F,Zg o.G,Zg o.E,C2 p o.B q,C2 m o.ps n,C2 k o.ls l,Ze,Zb,Zb,Ze,Ze,Ze] _ rfl rfl x9.range underlying34 rfl Yr) rfl ?_;exact⟨0,JF j lim f i o,_,_,_,_,_,_,_,M,zH,rfl,K.2.2,K.2.1⟩
    case' inl=>
     have zX:(o.code==0)=bq:=D2 F;have zY:(o.code !=0)=bg:=D2 F;have zA:Hid (Dp j lim f i 2 v0):=A;clear zB A F HC zK zC;go_upto_region 4 with fail;rw[<-s.o];clear s;have U:Hid (Aa _ _ _):=zN.o;have R:Hid (bs _ _ _):=B.o;obtain⟨X,rfl⟩:=Ag r
 all_goals
  have D:(Xo:Array Value).all (·.oneCell')=bg:=G3;have F:X.there (w.1.size+1) 0 17:=(U.o).there;obtain⟨A,I,C⟩:=Yw (Zn D F),Ag (X.setCells (w.1.size+1) 0 Xn);have x9:Aa I (w.1.size+1) Xn:=by rw[C];exact(U.o).aw _ rfl
  have Y:bs w.1.size w I:=(R.o).ag (by rw[C];exact(AD _ _ _ _).A (R.o).size Yu);have s:=Yw C;clear D F C;go_wp2_with (refine wpList_store_mid rfl 34 _ _ rfl (w.1.size+1) 0 Xo rfl rfl A.2 Yr A.1 ?_);rw[<-s.o];refine bodyPost_ret (Eh results66 _ _ (w.1.size+1) Xn _ rfl rfl x9.range underlying34 rfl Yr) rfl ?_;exact⟨_,v0,_,_,_,_,_,_,_,[],zA,rfl,AF.nil _ _,Y⟩
