import Derived.Test.YtfehblndlffcmaaGreatDoorX19
import Derived.Test.YtfehblndlffcmaaGreatDoorX37
import Derived.Test.YtfehblndlffcmaaGreatDoorX38
set_option maxRecDepth 100000
set_option maxHeartbeats 16000000
open Option renaming some->an,none->ba
open Bool renaming true->bg,false->bq
open Go.RowKit renaming Below->bs
open Decidable renaming decide->bx
open Go.Obj renaming cells->ca
open Go.Value renaming slice->cr,agg->ct
open Or renaming inl->dp,inr->eb
open Go.Ground renaming data->ed
open List renaming length->eh,toArray->ei
open Go.World renaming cell?->ek,grownBy->ep,setCell->ev
namespace Go.Proofs.YtfehblndlffcmaaGreatDoor
open ChangeShapes WideShapes ChangeAt RowKit _root_.Go.Proofs.Tryz List World Value
variable{v:Vd}{d l o m i p k K:Int}{a:Zk}{b n q B c g:Nat}{D E P L j Q M s t y:Value}{u:UR}{w X W Y wr Z:Zh}{f r x:Zl}{V:List Nat}{vs:Zj}
def oC(v:Vd)(a:Va)(D:Value)(n:Nat)(u:UR):Zj:=JS 0 (Bd (Bg v u) (cr a.Y (eh v.ss) a.sc) (cr a.V (eh (Bg v u).C) a.T) (cr a.Q (eh u.B) a.W) (cr a.L (eh v.ps) a.P) (cr a.K (eh v.ls) a.O) (cr a.Z (eh u.H) a.y) (cr a.g (eh u.ms) a.j)) n D
structure Fw (v:Vd) (lo ob:Nat) (a:Va) (b:Nat) (zs:List (Kd×Value)) (D:Value) (n:Nat) (u:UR) (w:Zh):Prop where
 box:Aa w ob (oC v a D n u)
 rr:RR w (ob::((Al (cr a.V (eh (Bg v u).C) a.T)).toList++(Al D).toList)) a b zs (Bg v u)
 uo:Ak w lo (cr a.V (eh (Bg v u).C) a.T) (Bg v u).C
 U:Ak w lo D u.ds
 ud:∀g,Al (cr a.V (eh (Bg v u).C) a.T)=an g->g≠ob/\Al D≠an g
 dd:∀g,Al D=an g->g≠ob
 iz:lo<=ob
theorem Fw.A{d e:Nat}{a:Va}{g:List (Kd×Value)}{f:Zh}(h:Fw v d e a b g D n u w)(c:Zz w f):Fw v d e a b g D n u f:=
 ⟨Aa.A (v:=Ze) h.box c,h.rr.S (U:=[]) (Tn.of c) Yu,h.uo.A c,h.U.A c,h.ud,h.dd,h.iz⟩
theorem Fw.next{l:Nat}{a:Va}{H:List (Kd×Value)}{r:UR}{E o:Zh}(h:Fw v q l a b H D n u w){e:Ending}{qs ms:Zl}{ks:C9}{ps:Db}{ls:Da}{wd N ph O I ro:Int}{p tc C A S:Nat}{y:List (Kd×Value)}{B z R:Zk}(G:LV w E e wd N m i P L ks ps ls ph O I ro qs ms b a.Z a.g H r p tc y B z R C A S)(hb:Zz E o){U' k:D4}{ta:Zk}{tn j:Nat}(hT:Tn V o X)(Z:∀g∈V,g=l\/Al (C3 a.V (eh (Bg v u).C) a.T)=an g\/Al D=an g)(K:U'=C3 ta tn j)(F:Ak X q U' (Bg v (u.and r)).C)(Y:Ak X q k (u.ds++r.ds))(x:∀g,Al U'=an g->Al (C3 a.V (eh (Bg v u).C) a.T)=an g\/o.1.size<=g)(t:∀g,Al k=an g->Al D=an g\/o.1.size<=g)(J:∀g,Al U'=an g->Al k≠an g)(s:Aa X l (oC v {Vz a p tc B z C A with V:=ta,T:=j} k (n+1) (u.and r))):Fw v q l {Vz a p tc B z C A with V:=ta,T:=j} p y k (n+1) (u.and r) X:=by
 subst K;have⟨_,_,T,_⟩:=F.row;cases T;have Q:=G.low;have M:∀g∈l::((Al (C2 a.V (Bg v u).C a.T)).toList++(Al D).toList),g<w.1.size:=λg c=>by
  simp only[Cf,Bw,By]at c;rcases c with rfl|c|c
  .exact h.box.lt
  .exact(h.uo.bh c).2
  exact(h.U.bh c).2
 have hz:w.1.size<=o.1.size:=gB;have zA:=h.box.lt;have W:=(((h.rr.unit M G).S (U:=[]) (Tn.of hb) Yu).clear (V':=(l::((Al (C2 a.V (Bg v u).C a.T)).toList++(Al D).toList))++((Al (C2 ta (Bg v (u.and r)).C j)).toList++(Al k).toList)) (λg c=>by
  simp only[Bw,By]at c;rcases c with c|c|c
  .exact dp c
  .rcases x g c with d|d
   .exact gA
   exact eb d
  .rcases t g c with d|d
   .exact gA
   exact eb d)).S hT (λg c=> dp (by
  have d:=Z g c;simp only[Cf,Bw,By];exact dp d))
 have f:=W.clear (V':=l::((Al (C2 ta (Bg v (u.and r)).C j)).toList++(Al k).toList)) (λg c=> dp (by
  simp only[Cf,Bw,By]at c |-;rcases c with d|d
  .omega
  exact eb d))
 refine⟨s,⟨f.Q,f.zk,f.z,f.s,f.p,f.l,f.q,f.m,f.cs,f.cp,f.cl,f.cq,f.cm,f.lt,f.ap⟩,F,Y,λg c=>⟨?_,J g c⟩,λg c=> ?_,h.iz⟩
 .rcases x g c with d|d
  .exact(h.ud g d).1
  omega
 rcases t g c with d|d
 .exact h.dd g d
 omega
theorem Fw.start{a:Va}{i:List (Kd×Value)}{m:Zj}(h:AF w c (C3 a.Y (eh v.ss) a.sc) (C3 a.V (eh v.C) a.T) (C3 a.Q (eh v.B) a.W) (C3 a.L (eh v.ps) a.P) (C3 a.K (eh v.ls) a.O) (C3 a.Z (eh v.H) a.y) (C3 a.g (eh v.ms) a.j) m v)(l:c<=w.1.size)(k:RR w (Al (C3 a.V (eh v.C) a.T)).toList a b i v):
 Fw v c w.1.size a b i Zb 0 (Hc v) ((w.alloc (ca (ei (z20 0)) 176)).setCells w.1.size 0 (oC v a Zb 0 (Hc v)))/\Zz w ((w.alloc (ca (ei (z20 0)) 176)).setCells w.1.size 0 (oC v a Zb 0 (Hc v))):=by
 obtain⟨j,f,_⟩:=boxed (X:=w) (cs:=oC v a Zb 0 (Hc v)) (z:=z20 0) (T:=176) rfl;refine⟨⟨j,?_,?_,Ak.nil _ _,λg d=>⟨?_,λe=>by cases e⟩,(λg e=>by cases e),l⟩,f⟩
 .rw[TA];refine(k.clear (λg d=> ?_)).S (U:=[]) (Tn.of f) Yu;simp only[Cf,Bw,By]at d;rcases d with rfl|d|d
  .omega
  .exact gA
  cases d
 .rw[TA];exact h.u.A f
 rw[TA]at d;have:=(h.u.bh d).2;omega
def LI(ob:Nat)(w:Zh):Nat:=match ek w (Zd ob 18)with
 |some v=>(intOf v).toNat
 |none=>0
theorem Fw.jg{d:Nat}{a:Va}{e:List (Kd×Value)}(h:Fw v d c a b e D n u w):LI c w=n:=by unfold LI;rw[(h.box 18 _ rfl).1];simp[intOf]
theorem VC{d:Zh}{f:Nat}{a:Va}{V:List (Kd×Value)}(h:Fw v B f a b V D n u X){S U T:D4}{E:Zj}(o:AF d X.1.size S U T P L Q M E (Bg v u))(y:Zz X d)(W:w.1.size+1<B)(z:Aa d (w.1.size+1) (z20 0)/\Zz w d){c C:Zj}(l:c=Bd (Bg v u) S U T P L Q M)(t:C=JS 0 c n D):
 (eh c=17/\(∀x∈c,x.oneCell'=bg)/\d.there f 1 (ei c).size)/\Aa (d.setCells f 1 (ei c).toList) f C/\(eh C=20/\(∀x∈C,x.oneCell'=bg)/\(d.setCells f 1 (ei c).toList).there (w.1.size+1) 0 (ei C).size)/\Aa ((d.setCells f 1 (ei c).toList).setCells (w.1.size+1) 0 (ei C).toList) (w.1.size+1) C/\
   SwA v (an (u,n)) w.1.size ((d.setCells f 1 (ei c).toList).setCells (w.1.size+1) 0 (ei C).toList) C/\Zz w ((d.setCells f 1 (ei c).toList).setCells (w.1.size+1) 0 (ei C).toList):=by
 obtain⟨H,I,Z⟩:=h.iz,h.box.lt,y.size;have p:eh c=17:=by rw[l];rfl
 have A:∀x∈c,x.oneCell'=bg:=by have⟨Y,e,_⟩:=o.jl;rw[l,e];simp[Bd,oneCell']
 have F:D.oneCell'=bg:=by have⟨_,_,e,_⟩:=h.U.row;rw[e];rfl
 have r:Aa d f (oC v a D n u):=Aa.A (v:=Ze) h.box y;have k:eh C=20/\∀x∈C,x.oneCell'=bg:=by
  rw[t];refine⟨by simp[JS,p],λx q=> ?_⟩;simp only[JS,Cf,Bw,not_mem_nil,or_false]at q;rcases q with rfl|q|rfl|rfl
  .rfl
  .exact A x q
  .rfl
  exact F
 have O:=AD f c 1 d;have G:Aa (d.setCells f 1 c) f C:=by rw[t];exact Aa.dy c [Ze] (Bd (Bg v u) (C2 a.Y v.ss a.sc) (C2 a.V (Bg v u).C a.T) (C2 a.Q u.B a.W) (C2 a.L v.ps a.P) (C2 a.K v.ls a.O) (C2 a.Z u.H a.y) (C2 a.g u.ms a.j)) [Zg n,D] d r (by rw[p];rfl)
 have s:Aa (d.setCells f 1 c) (w.1.size+1) (z20 0):=gC;have R:=AD (w.1.size+1) C 0 (d.setCells f 1 c);have m:Tn [f,w.1.size+1] d ((d.setCells f 1 c).setCells (w.1.size+1) 0 C):=(O.ai Yu).ag (R.ai Yu);have N:=z.2.size;refine⟨⟨p,A,?_⟩,G,⟨k.1,k.2,?_⟩,s.aw C (by rw[k.1];rfl),⟨S,U,T,P,L,Q,M,E,D,by rw[t,l],(o.stays m (λg i j=> ?_)).ai Yv,((h.U.A y).S m (λg i j=> ?_)).ai Yv,λg i j=> ?_⟩,z.2.ag (m.A N (λg i=> ?_))⟩
 .rw[show (ei c).size=17 from by rw[A0];exact p];exact Aa.cw [Ze] (Bd (Bg v u) (C2 a.Y v.ss a.sc) (C2 a.V (Bg v u).C a.T) (C2 a.Q u.B a.W) (C2 a.L v.ps a.P) (C2 a.K v.ls a.O) (C2 a.Z u.H a.y) (C2 a.g u.ms a.j)) [Zg n,D] r
 .rw[show (ei C).size=20 from by rw[A0];exact k.1];exact s.there
 .have:=o.lo g j;simp at i;omega
 .have J:=h.dd g i;have K:=(h.U.bh i).1;simp at j;omega
 .have J:=o.lo g j;have K:=(h.U.bh i).2;omega
 simp at i;omega
theorem Adl{a:Nat}{r u v C c6 F w x YP z GO A Jb B b c d e f g i k l m n o p q:D4}(h:Aa X a [r,s,t,u,v,C,c6,D,E,F,w,x,YP,y,z,GO,A,Jb,B,b])(G:W=ev (ev (ev (ev (ev (ev (ev (ev (ev (ev (ev (ev (ev (ev X (Zd a 5) c) (Zd a 6) d) (Zd a 7) e) (Zd a 8) f) (Zd a 9) g) (Zd a 10) i) (Zd a 11) j) (Zd a 12) k) (Zd a 13) l) (Zd a 14) m) (Zd a 15) n) (Zd a 16) o) (Zd a 17) p) (Zd a 18) q):
 Aa W a [r,s,t,u,v,c,d,e,f,g,i,j,k,l,m,n,o,p,q,b]/\Tn [a] X W:=by
 subst G;exact⟨(((((((((((((h.set 5 c).set 6 d).set 7 e).set 8 f).set 9 g).set 10 i).set 11 j).set 12 k).set 13 l).set 14 m).set 15 n).set 16 o).set 17 p).set 18 q,(((((((((((((AX _ _ _ _).ag (AX _ _ _ _)).ag (AX _ _ _ _)).ag (AX _ _ _ _)).ag (AX _ _ _ _)).ag (AX _ _ _ _)).ag (AX _ _ _ _)).ag (AX _ _ _ _)).ag (AX _ _ _ _)).ag (AX _ _ _ _)).ag (AX _ _ _ _)).ag (AX _ _ _ _)).ag (AX _ _ _ _)).ag (AX _ _ _ _)⟩
theorem TB{a:Va}(R:Int)(hr:Bc w w.1.size a v)(d:Kv a v)(hf:Dz v)(i:BW v->Ky w a v):
 D8 113 #[ct #[Zg v.wd,Zg v.lim,C3 a.Y (eh v.ss) a.sc,C3 a.V (eh v.C) a.T,Zg v.J,Zg v.F,Zg v.G,Zg v.E,C3 a.Q (eh v.B) a.W,C3 a.L (eh v.ps) a.P,C3 a.K (eh v.ls) a.O,Zg v.I,C3 a.Z (eh v.H) a.y,C3 a.g (eh v.ms) a.j,Zg v.N,Zg v.M,Zg v.ro],Zg R] w (SwP v w):=by
 have⟨W,c⟩:=Ag ((w.alloc (ca #[Zg v.wd,Zg v.lim,C2 a.Y v.ss a.sc,C2 a.V v.C a.T,Zg v.J,Zg v.F,Zg v.G,Zg v.E,C2 a.Q v.B a.W,C2 a.L v.ps a.P,C2 a.K v.ls a.O,Zg v.I,C2 a.Z v.H a.y,C2 a.g v.ms a.j,Zg v.N,Zg v.M,Zg v.ro] 34)).alloc (ca #[Ze,Ze,Ze,Zb,Zb,Ze,Ze,Ze,Ze,Zb,Zb,Zb,Ze,Zb,Zb,Ze,Ze,Ze,Ze,Zb] 176));obtain⟨f,y,m⟩:=(AQ c).1,(AQ c).2.1,(AQ c).2.2.1;have x:Aa W (w.1.size+1) (z20 0):=(AQ (k:=z20 0) c).2.2.2;have H:Hid (∀X,Zz W X->Aa X w.1.size [Zg v.wd,Zg v.lim,C2 a.Y v.ss a.sc,C2 a.V v.C a.T,Zg v.J,Zg v.F,Zg v.G,Zg v.E,C2 a.Q v.B a.W,C2 a.L v.ps a.P,C2 a.K v.ls a.O,Zg v.I,C2 a.Z v.H a.y,C2 a.g v.ms a.j,Zg v.N,Zg v.M,Zg v.ro]/\Aa X (w.1.size+1) (z20 0)/\Zz w X):=λX Z=>⟨Aa.A m Z,Aa.A (v:=Ze) x Z,f.ag (Z.ai f.size)⟩;obtain⟨j,yC,l⟩:=Yw (DJ (hr.X f) d hf),Yw i,Yw c;clear c m x hr d i;delta D8;go_in;go_upto_region 1 with fail;rw[<-l.o];clear l;go_wp2_with (refine wpList_load_mid rfl 34 _ rfl w.1.size 0 rfl [Zg v.wd,Zg v.lim,C2 a.Y v.ss a.sc,C2 a.V v.C a.T,Zg v.J,Zg v.F,Zg v.G,Zg v.E,C2 a.Q v.B a.W,C2 a.L v.ps a.P,C2 a.K v.ls a.O,Zg v.I,C2 a.Z v.H a.y,C2 a.g v.ms a.j,Zg v.N,Zg v.M,Zg v.ro] _ (H W Ae).1.range underlying34 rfl Ez ?_)
 refine j.Aj ?_;rintro e w1 ⟨o,rfl,d,zT⟩;clear j;cases o with
 |false=>
  clear d yC;have B:=Yw (MH (X:=w1) (H w1 zT).2);clear H;go_wp2_with (refine wpList_store_mid rfl 176 _ _ rfl (w.1.size+1) 0 #[Zg 1,Ze,Ze,Zb,Zb,Ze,Ze,Ze,Ze,Zb,Zb,Zb,Ze,Zb,Zb,Ze,Ze,Ze,Ze,Zb] rfl rfl B.1 Ez B.2.1 ?_);change bodyPost _ _ _ _ _ (w1.setCells (w.1.size+1) 0 (z20 1))
  refine bodyPost_ret (AM results113 _ _ (w.1.size+1) (z20 1) _ rfl B.2.2.1.range underlying176 rfl Ez) rfl ?_;exact⟨ba,z20 1,(λp hp=>by cases hp),rfl,rfl,B.2.2.2⟩
 |true=>
  have c:Hid (BW v):=d.1 rfl;clear d;go_wp2_with fail;refine Calls.mono (CY R 0 10000 w1) ?_;rintro e x ⟨rfl,vH⟩;subst vH;by_cases hun:0<=R/\R<=10000
  case neg=>
   rw[decide_eq_false hun];clear yC hun;have B:=Yw (MH (X:=x) (H x zT).2);clear H;go_wp2_with (refine wpList_store_mid rfl 176 _ _ rfl (w.1.size+1) 0 #[Zg 1,Ze,Ze,Zb,Zb,Ze,Ze,Ze,Ze,Zb,Zb,Zb,Ze,Zb,Zb,Ze,Ze,Ze,Ze,Zb] rfl rfl B.1 Ez B.2.1 ?_);change bodyPost _ _ _ _ _ (x.setCells (w.1.size+1) 0 (z20 1));refine bodyPost_ret (AM results113 _ _ (w.1.size+1) (z20 1) _ rfl B.2.2.1.range underlying176 rfl Ez) rfl ?_;exact⟨ba,z20 1,(λp hp=>by cases hp),rfl,rfl,B.2.2.2⟩
  rw[decide_eq_true hun];obtain⟨N,rfl⟩:∃N:Nat,R=N:=⟨R.toNat,by omega⟩;have hN:N<=10000:=D9;have⟨r,d⟩:=c.o;have E:Hid (Ky x a v):=(yC c).A (H x zT).2.2;have zI:Hid (BW v):=c.o;have F:Hid (Mq v.E v.B v.ps v.ls (4000 -eh (v.ss++v.C)) (Hc v)):=Vr d;have zS:Hid (eh (v.ss++v.C)<=4000):=DQ d.log;have i:=zT.size;replace H:Hid (∀X,Zz x X->Aa X w.1.size [Zg v.wd,Zg v.lim,C2 a.Y v.ss a.sc,C2 a.V v.C a.T,Zg v.J,Zg v.F,Zg v.G,Zg v.E,C2 a.Q v.B a.W,C2 a.L v.ps a.P,C2 a.K v.ls a.O,Zg v.I,C2 a.Z v.H a.y,C2 a.g v.ms a.j,Zg v.N,Zg v.M,Zg v.ro]/\Aa X (w.1.size+1) (z20 0)/\Zz w X):=λX Z=>H X (zT.ag (Z.ai i));have xD:Hid (w.1.size+2<=x.1.size):=by show _<=_;omega
  clear yC c hun d zT i f y;go_wp2_with (refine wpList_load_mid rfl 34 _ rfl w.1.size 0 rfl [Zg v.wd,Zg v.lim,C2 a.Y v.ss a.sc,C2 a.V v.C a.T,Zg v.J,Zg v.F,Zg v.G,Zg v.E,C2 a.Q v.B a.W,C2 a.L v.ps a.P,C2 a.K v.ls a.O,Zg v.I,C2 a.Z v.H a.y,C2 a.g v.ms a.j,Zg v.N,Zg v.M,Zg v.ro] _ (H x Ae).1.range underlying34 rfl Ez ?_);refine Calls.mono (Gk v a x E) ?_;rintro e d ⟨S,U,T,P,L,Q,M,rs,rfl,hA,g,f⟩;obtain⟨c,b,zs,rfl,rfl,rfl,rfl,rfl,rfl,rfl,O⟩:=RR.start hA g;have⟨vs,zC⟩:=Ag (Bd v (C2 c.Y v.ss c.sc) (C2 c.V v.C c.T) (C2 c.Q v.B c.W) (C2 c.L v.ps c.P) (C2 c.K v.ls c.O) (C2 c.Z v.H c.y) (C2 c.g v.ms c.j));have I:eh vs=17:=by rw[zC];rfl
  have⟨D0,l⟩:=Ag (JS 0 vs 0 Zb);have K:oC v c Zb 0 (Hc v)=D0:=by rw[l,zC];unfold oC;rw[TA];rfl
  have y:eh D0=20/\∀u∈D0,u.oneCell'=bg:=by rw[l,zC];exact⟨rfl,by simp[JS,Bd,oneCell']⟩
  have A:Hid (prog.built 176 [(1,ct (ei vs))]=an (ei D0)):=by show _=an (ei D0);rw[l];exact XK I
  have i:=Fw.start hA f.size O;rw[K]at i;have⟨W4,z⟩:=Ag ((d.alloc (ca #[Ze,Ze,Ze,Zb,Zb,Ze,Ze,Ze,Ze,Zb,Zb,Zb,Ze,Zb,Zb,Ze,Ze,Ze,Ze,Zb] 176)).setCells d.1.size 0 (ei D0).toList);have J:W4=(d.alloc (ca (ei (z20 0)) 176)).setCells d.1.size 0 D0:=z;rw[<-J]at i;have j:Hid ((d.alloc (ca #[Ze,Ze,Ze,Zb,Zb,Ze,Ze,Ze,Ze,Zb,Zb,Zb,Ze,Zb,Zb,Ze,Ze,Ze,Ze,Zb] 176)).there d.1.size 0 (ei D0).size/\eh D0=20/\∀u∈D0,u.oneCell'=bg):=⟨by rw[show (ei D0).size=20 from by rw[A0];exact y.1];exact(Aa.new d (z20 0) 176).there,y⟩;have m:Hid (Fw v x.1.size d.1.size c b zs Zb 0 (Hc v) W4/\Zz x W4):=⟨i.1,f.ag (i.2.ai f.size)⟩
  have xL:Hid (x.1.size<=d.1.size):=f.size;have G:=Yw z;rw[show(Bd v (C2 c.Y v.ss c.sc) (C2 c.V v.C c.T) (C2 c.Q v.B c.W) (C2 c.L v.ps c.P) (C2 c.K v.ls c.O) (C2 c.Z v.H c.y) (C2 c.g v.ms c.j))=vs from zC.symm];clear i z J K l y zC I hA g O f E;go_wp2_with (first
   |refine Hb rfl 176 _ rfl [(1,ct (ei vs))] Ez (ei D0) A ?_
   |refine wpList_store_mid rfl 176 _ _ rfl d.1.size 0 (ei D0) rfl rfl j.1 (by rw[A0,j.2.1];kernel_rfl) (all_oneCell_toArray j.2.2) ?_)
  rw[<-G.o];clear G A j;simp only[Act.put];go_loopw [] (λwr=>∃c b zs D n u,Hid (Fw v x.1.size d.1.size c b zs D n u wr/\Mq v.E v.B v.ps v.ls (4000 -eh (v.ss++v.C)) u/\n<=N/\Zz x wr)) (λwr=>N -LI d.1.size wr)
  case atStart=>exact⟨c,b,zs,_,0,Hc v,m.1,F,Aq _,m.2⟩
  clear m F;clear c b zs;obtain⟨c,b,zs,D,n,u,A⟩:=hrel;have i:eh (Bg v u).C=eh v.C+eh u.ds:=by simp[Bg]
  have⟨m,f⟩:=Ag (eh (Bg v u).C);have z:Hid (m=eh (Bg v u).C/\m=eh v.C+eh u.ds):=⟨f,by omega⟩;have J:Hid (∀X,Zz wr X->Aa X d.1.size [Ze,Zg v.wd,Zg v.lim,C2 c.Y v.ss c.sc,C3 c.V m c.T,Zg v.J,Zg v.F,Zg v.G,Zg v.E,C6 b u.B c.W,C2 c.L v.ps c.P,C2 c.K v.ls c.O,Zg u.I,C2 c.Z u.H c.y,C2 c.g u.ms c.j,Zg u.N,Zg u.M,Zg u.ro,Zg n,D]):=λX Z=>by have h:=(A.1.A Z).box;unfold oC at h;rw[<-f,A.1.rr.Q]at h;exact h
  clear f i;have K:Hid (eh (Bg v u).ss<=1048576/\eh (Bg v u).C<=1048576/\eh (Bg v u).H<=100000000/\eh (Bg v u).ms<=100000000/\eh (Bg v u).B<=600/\eh (Bg v u).ps<=100/\eh (Bg v u).ls<=200/\∀k∈(Bg v u).B,eh k.D<=30):=by have f:=zS.o;have F:=A.2.1;obtain⟨h3,h4,h5⟩:=F.dl,F.ql,F.ml;rw[Am]at f;have h6:=z.o;exact⟨by show eh v.ss<=_;omega,by omega,by show eh u.H<=_;omega,by show eh u.ms<=_;omega,by show eh u.B<=_;omega,F.w.pl,F.w.ll,F.w.cz⟩
  have tC:d.1.size<wr.1.size:=Aa.lt A.1.box;obtain⟨tB,O,_⟩:=A.2.2.1,J wr Ae 18 _ rfl;by_cases hlt:n<N
  case neg=>
   have tA:¬(n:Int)<N:=D9;have E:Hid (Zz x wr):=A.2.2.2;have y:Hid (Fw v x.1.size d.1.size c b zs D n u wr):=A.1;have O:Hid (Fl v (an (u,n))):=(λp hp=>by cases hp;exact⟨zI,A.2.1⟩);clear zI J A z;have zY:Hid (Ky wr c (Bg v u)):=y.rr.kj y.uo K.1 K.2.1 K.2.2.1 K.2.2.2.1 K.2.2.2.2.1 K.2.2.2.2.2.1 K.2.2.2.2.2.2.1 K.2.2.2.2.2.2.2;have⟨Z,j⟩:=Ag (Bd (Bg v u) (C2 c.Y (Bg v u).ss c.sc) (C2 c.V (Bg v u).C c.T) (C2 c.Q (Bg v u).B c.W) (C2 c.L (Bg v u).ps c.P) (C2 c.K (Bg v u).ls c.O) (C2 c.Z (Bg v u).H c.y) (C2 c.g (Bg v u).ms c.j));have g:Hid (wr.rangeAt d.1.size 1 Z/\eh Z=17):=K3;have i:=Yw (Gk (Bg v u) c wr zY);rw[<-j]at i;clear j zY;go_wp2_with (refine wpList_load_mid rfl 34 _ rfl d.1.size 1 rfl Z _ g.1 underlying34 rfl (by rw[g.2];kernel_rfl) ?_);refine i.Aj ?_;rintro e w9 ⟨S,U,T,P,L,Q,M,rs,rfl,hA,_,Y⟩;clear i g;have⟨vs,zC⟩:=Ag (Bd (Bg v u) S U T P L Q M);rw[<-zC];have⟨C,hC⟩:=Ag (JS 0 vs n D)
   have I:=Yw (VC y hA Y (Dl xD.o) (H w9 (E.ag (Y.ai E.size))).2 zC hC);clear zC hC hA Y H y E;go_wp2_with (first
    |refine wpList_store_mid rfl 34 _ _ rfl d.1.size 1 (ei vs) rfl rfl I.1.2.2 (by rw[A0,I.1.1];kernel_rfl) (all_oneCell_toArray I.1.2.1) ?_
    |refine wpList_load_mid rfl 176 _ rfl d.1.size 0 rfl C _ I.2.1.range underlying176 rfl L7 ?_
    |refine wpList_store_mid rfl 176 _ _ rfl (w.1.size+1) 0 (ei C) rfl rfl I.2.2.1.2.2 (by rw[A0,I.2.2.1.1];kernel_rfl) (all_oneCell_toArray I.2.2.1.2.1) ?_)
   exact bodyPost_ret (AM results113 _ _ (w.1.size+1) C _ rfl (Aa.range I.2.2.2.1) underlying176 rfl L7) rfl ⟨an (u,n),C,O,rfl,I.2.2.2.2.1,I.2.2.2.2.2⟩
  have vY:(n:Int)<N:=D9;obtain⟨⟨l,_⟩,⟨E,_⟩,⟨G,_⟩,⟨I,_⟩,⟨g,_⟩,o,_⟩:=J wr Ae 12 _ rfl,J wr Ae 13 _ rfl,J wr Ae 14 _ rfl,J wr Ae 15 _ rfl,J wr Ae 16 _ rfl,J wr Ae 17 _ rfl;have⟨W5,i⟩:=D6 wr #[Zg u.I,C2 c.Z u.H c.y,C2 c.g u.ms c.j,Zg u.N,Zg u.M,Zg u.ro] 32;have y:=(Ax i).1;have y5:=((Ax i).2.2 5 _ rfl).1;have zA:Hid (Zz wr W5/\Zz x W5):=⟨y,A.2.2.2.ag (y.ai A.2.2.2.size)⟩;have j:=Yw i;clear i y;go_upto_region 6 with fail;rw[<-j.o];clear j l E G I g o O;have y:=A.2.1.w.r1;by_cases hro:u.ro=1000000000
  .have yT:(1000000000:Int)<=u.ro:=D9;have O:Hid (Fl v ba):=(λp hp=>by cases hp);clear zI y z J A;have B:=Yw (MH (X:=W5) (H W5 zA.2).2);clear H;go_wp2_with (refine wpList_store_mid rfl 176 _ _ rfl (w.1.size+1) 0 #[Zg 1,Ze,Ze,Zb,Zb,Ze,Ze,Ze,Ze,Zb,Zb,Zb,Ze,Zb,Zb,Ze,Ze,Ze,Ze,Zb] rfl rfl B.1 Ez B.2.1 ?_);change bodyPost _ _ _ _ _ (W5.setCells (w.1.size+1) 0 (z20 1));refine bodyPost_ret (AM results113 _ _ (w.1.size+1) (z20 1) _ rfl B.2.2.1.range underlying176 rfl Ez) rfl ?_;exact⟨ba,z20 1,O,rfl,rfl,B.2.2.2⟩
  have yT:¬(1000000000:Int)<=u.ro:=D9;have zF:Hid (Fw v x.1.size d.1.size c b zs D n u W5):=A.1.A zA.1;have j:=Yw zF.rr;have q:=Yw (Mr v.J v.F v.G v.E b c.W zs u.B v.ps v.ls c.L c.K c.P c.O u.I u.N u.M u.ro c.Z c.g c.y c.j u.H u.ms W5 j.zk j.z (j.lt b (dp rfl)) j.p j.l j.q j.m j.cq j.cm (λp e=>j.lt _ (eb (dp ⟨p,by simp[e],rfl⟩))) (λp e=>j.lt _ (eb (dp ⟨p,by simp[e],rfl⟩))) A.2.1.w (Dl A.2.1.ml));have i:=J W5 zA.1;obtain⟨k5,_⟩:=i 5 _ rfl;obtain⟨⟨k6,_⟩,⟨k7,_⟩,⟨k8,_⟩,⟨k9,_⟩,⟨s,_⟩,⟨C,_⟩,⟨l,_⟩,⟨E,_⟩,⟨G,_⟩,⟨I,_⟩,⟨g,_⟩,o,_⟩:=i 6 _ rfl,i 7 _ rfl,i 8 _ rfl,i 9 _ rfl,i 10 _ rfl,i 11 _ rfl,i 12 _ rfl,i 13 _ rfl,i 14 _ rfl,i 15 _ rfl,i 16 _ rfl,i 17 _ rfl;clear i j;go_wp2_with fail;refine q.Aj ?_;rintro e w6 ⟨r,b2,tc,xI,qa,ma,da,qc,mc,dc,i⟩;clear k5 k6 k7 k8 k9 s C l E G I g o y5 q;have he:=i.e;subst he;have q:Gg u.B v.ps v.ls u.ro u.H u.ms r:=i.jx;have⟨l,E⟩:=D6 w6 #[Ze,Zg v.J,Zg v.F,Zg v.G,Zg v.E,C6 b2 r.B tc,C2 c.L v.ps c.P,C2 c.K v.ls c.O,Zg r.I,C2 qa r.H qc,C2 ma r.ms mc,Zg r.N,Zg r.M,Zg r.ro,C2 da r.ds dc] 128;have I:=(Ax E).1;have g:=(Ax E).2.2;have zJ:Hid (Aa l w6.1.size [Ze,Zg v.J,Zg v.F,Zg v.G,Zg v.E,C6 b2 r.B tc,C2 c.L v.ps c.P,C2 c.K v.ls c.O,Zg r.I,C2 qa r.H qc,C2 ma r.ms mc,Zg r.N,Zg r.M,Zg r.ro,C2 da r.ds dc]):=g;have j:bs W5.1.size W5 l:=i.low.ag (I.ai i.low.size);have G:Hid (Zz W5 l/\Zz x l/\Zz wr l/\Zz w6 l):=⟨j,zA.2.ag (j.ai zA.2.size),zA.1.ag (j.ai zA.1.size),I⟩;have C:=Yw i;have zH:Hid (Gg u.B v.ps v.ls u.ro u.H u.ms r):=q;have o:=Yw E;clear E i q j I;go_upto_region 9 with fail;rw[<-o.o];clear o;obtain⟨⟨o,_⟩,I,_⟩:=g 9 _ rfl,g 10 _ rfl;clear g;by_cases hq:23200<eh r.H
  .have xF:(23200:Int)<eh r.H:=D9;have O:Hid (Fl v ba):=(λp hp=>by cases hp);clear zI y z J A zF C zH zJ;have B:=Yw (MH (X:=l) (H l G.2.1).2);clear H;go_wp2_with (refine wpList_store_mid rfl 176 _ _ rfl (w.1.size+1) 0 #[Zg 1,Ze,Ze,Zb,Zb,Ze,Ze,Ze,Ze,Zb,Zb,Zb,Ze,Zb,Zb,Ze,Ze,Ze,Ze,Zb] rfl rfl B.1 Ez B.2.1 ?_);change bodyPost _ _ _ _ _ (l.setCells (w.1.size+1) 0 (z20 1));refine bodyPost_ret (AM results113 _ _ (w.1.size+1) (z20 1) _ rfl B.2.2.1.range underlying176 rfl Ez) rfl ?_;exact⟨ba,z20 1,O,rfl,rfl,B.2.2.2⟩
  by_cases hm:600<eh r.ms
  .have xF:¬(23200:Int)<eh r.H:=D9;have vE:(600:Int)<eh r.ms:=D9;have O:Hid (Fl v ba):=(λp hp=>by cases hp);clear zI y z J A zF C zH zJ;have B:=Yw (MH (X:=l) (H l G.2.1).2);clear H;go_wp2_with (refine wpList_store_mid rfl 176 _ _ rfl (w.1.size+1) 0 #[Zg 1,Ze,Ze,Zb,Zb,Ze,Ze,Ze,Ze,Zb,Zb,Zb,Ze,Zb,Zb,Ze,Ze,Ze,Ze,Zb] rfl rfl B.1 Ez B.2.1 ?_);change bodyPost _ _ _ _ _ (l.setCells (w.1.size+1) 0 (z20 1));refine bodyPost_ret (AM results113 _ _ (w.1.size+1) (z20 1) _ rfl B.2.2.1.range underlying176 rfl Ez) rfl ?_;exact⟨ba,z20 1,O,rfl,rfl,B.2.2.2⟩
  have xF:¬(23200:Int)<eh r.H:=D9;have vE:¬(600:Int)<eh r.ms:=D9;obtain⟨yG,_⟩:=zJ 14 _ rfl;by_cases hds:r.ds=[]
  .have vC:¬(0:Int)<eh r.ds:=(by rw[hds];simp);have zP:(Bg v (u.and r)).C=(Bg v u).C:=(by simp[Bg,UR.and,hds]);have zZ:eh (Bg v (u.and r)).C=m:=(by rw[zP];exact z.1.symm);have y:Hid (Fw v x.1.size d.1.size c b zs D n u l):=A.1.A G.2.2.1;have HY:Hid (Aa l d.1.size [Ze,Zg v.wd,Zg v.lim,C2 c.Y v.ss c.sc,C3 c.V m c.T,Zg v.J,Zg v.F,Zg v.G,Zg v.E,C6 b u.B c.W,C2 c.L v.ps c.P,C2 c.K v.ls c.O,Zg u.I,C2 c.Z u.H c.y,C2 c.g u.ms c.j,Zg u.N,Zg u.M,Zg u.ro,Zg n,D]/\Aa l w6.1.size [Ze,Zg v.J,Zg v.F,Zg v.G,Zg v.E,C6 b2 r.B tc,C2 c.L v.ps c.P,C2 c.K v.ls c.O,Zg r.I,C2 qa r.H qc,C2 ma r.ms mc,Zg r.N,Zg r.M,Zg r.ro,C2 da r.ds dc]):=⟨J l G.2.2.1,zJ⟩;have i:=HY.o;have⟨W9,zO⟩:=Ag (ev (ev (ev (ev (ev (ev (ev (ev (ev (ev (ev (ev (ev (ev l (Zd (d.1.size) 5) (Zg v.J)) (Zd (d.1.size) 6) (Zg v.F)) (Zd (d.1.size) 7) (Zg v.G)) (Zd (d.1.size) 8) (Zg v.E)) (Zd (d.1.size) 9) (C6 b2 r.B tc)) (Zd (d.1.size) 10) (C2 c.L v.ps c.P)) (Zd (d.1.size) 11) (C2 c.K v.ls c.O)) (Zd (d.1.size) 12) (Zg r.I)) (Zd (d.1.size) 13) (C2 qa r.H qc)) (Zd (d.1.size) 14) (C2 ma r.ms mc)) (Zd (d.1.size) 15) (Zg r.N)) (Zd (d.1.size) 16) (Zg r.M)) (Zd (d.1.size) 17) (Zg r.ro)) (Zd (d.1.size) 18) (Zg (n+1)));have zB:=Adl i.1 zO;have B:Hid (Fw v x.1.size d.1.size {Vz c b2 tc qa ma qc mc with V:=c.V,T:=c.T} b2 xI D (n+1) (u.and r) W9/\Mq v.E v.B v.ps v.ls (4000 -eh (v.ss++v.C)) (u.and r)/\n+1<=N/\Zz x W9):=by
    refine⟨zF.next C G.2.2.2 (V:=[d.1.size]) ((λ(h:Tn [d.1.size] l W9)=>h) zB.2) (λg j=> dp (D2 j)) (U':=C3 c.V m c.T) rfl (by rw[zP,z.1];exact y.uo.S zB.2 (λg j E=>by have:=(y.ud g j).1;simp at E;omega)) (by rw[hds,append_nil];exact y.U.S zB.2 (λg j E=>by have:=y.dd g j;simp at E;omega)) (λg j=> dp (by rw[<-z.1];exact j)) (λg j=> dp j) (λg j=>(y.ud g (by rw[<-z.1];exact j)).2) ?_,A.2.1.step zH hro D9 D9 (dp hds),hlt,?_⟩
    .unfold oC;rw[zZ];exact zB.1
    exact G.2.1.ag (((λ(h:Tn [d.1.size] l W9)=>h) zB.2).A G.2.1.size (λg j=>by simp at j;have:=xL.o;omega))
   have HM:Hid (N -LI d.1.size W9<N -LI d.1.size wr):=(by show _<_;rw[B.1.jg,A.1.jg];omega);obtain⟨⟨z1,_⟩,⟨z2,_⟩,⟨z3,_⟩,⟨z4,_⟩,⟨z5,_⟩,⟨z6,_⟩,⟨z7,_⟩,⟨z8,_⟩,⟨z9,_⟩,⟨vU,_⟩,⟨vV,_⟩,⟨z12,_⟩,⟨vW,_⟩,o5,g5⟩:=i.2 1 _ rfl,i.2 2 _ rfl,i.2 3 _ rfl,i.2 4 _ rfl,i.2 5 _ rfl,i.2 6 _ rfl,i.2 7 _ rfl,i.2 8 _ rfl,i.2 9 _ rfl,i.2 10 _ rfl,i.2 11 _ rfl,i.2 12 _ rfl,i.2 13 _ rfl,i.1 5 _ rfl;obtain⟨⟨o6,g6⟩,⟨o7,g7⟩,⟨o8,g8⟩,⟨o9,g9⟩,⟨vK,xN⟩,⟨vL,xO⟩,⟨vM,xP⟩,⟨vN,xQ⟩,⟨vO,xR⟩,⟨vP,xS⟩,⟨vQ,xT⟩,⟨vR,xU⟩,⟨vS,xW⟩,yL⟩:=i.1 6 _ rfl,i.1 7 _ rfl,i.1 8 _ rfl,i.1 9 _ rfl,i.1 10 _ rfl,i.1 11 _ rfl,i.1 12 _ rfl,i.1 13 _ rfl,i.1 14 _ rfl,i.1 15 _ rfl,i.1 16 _ rfl,i.1 17 _ rfl,i.1 18 _ rfl,Yw zO;have yO:¬w6.1.size=d.1.size:=I8;have yQ:¬d.1.size=w6.1.size:=λe=>yO e.symm;clear i zB zO zP zZ z J zJ y HY C zH zF o I;go_wp2;rw[<-yL.o];exact⟨⟨_,_,_,_,n+1,u.and r,B⟩,HM⟩
  obtain⟨s,I⟩:=zH.some hds;have vC:(0:Int)<eh r.ds:=by rw[I];simp
  have yE:Hid (r.ds=[s]):=I;clear I hds;by_cases hfl:eh u.ds<4000 -eh (v.ss++v.C)
  case neg=>
   have vD:(4000:Int)<=eh v.ss+m:=(by have f:=zS.o;have F:=z.2;rw[Am]at f hfl;omega);have vF:eh v.ss<=4000:=(by have f:=zS.o;rw[Am]at f;omega);have yU:m<=1048576:=(by rw[z.1];exact K.2.1);have O:Hid (Fl v (an (u,n))):=(λp hp=>by cases hp;exact⟨zI,A.2.1⟩);have E:Hid (Zz x l):=G.2.1;have y:Hid (Fw v x.1.size d.1.size c b zs D n u l):=A.1.A G.2.2.1;have i:=J l G.2.2.1;obtain⟨⟨k3,_⟩,k4,_⟩:=i 3 _ rfl,i 4 _ rfl;have yS:d.1.size<l.1.size:=i.lt;clear i zI J A z zF C zH zJ hfl;have zY:Hid (Ky l c (Bg v u)):=y.rr.kj y.uo K.1 K.2.1 K.2.2.1 K.2.2.2.1 K.2.2.2.2.1 K.2.2.2.2.2.1 K.2.2.2.2.2.2.1 K.2.2.2.2.2.2.2;have⟨Z,j⟩:=Ag (Bd (Bg v u) (C2 c.Y (Bg v u).ss c.sc) (C2 c.V (Bg v u).C c.T) (C2 c.Q (Bg v u).B c.W) (C2 c.L (Bg v u).ps c.P) (C2 c.K (Bg v u).ls c.O) (C2 c.Z (Bg v u).H c.y) (C2 c.g (Bg v u).ms c.j));have g:Hid (l.rangeAt d.1.size 1 Z/\eh Z=17):=K3;have i:=Yw (Gk (Bg v u) c l zY);rw[<-j]at i;clear j zY;go_wp2_with (refine wpList_load_mid rfl 34 _ rfl d.1.size 1 rfl Z _ g.1 underlying34 rfl (by rw[g.2];kernel_rfl) ?_);refine i.Aj ?_;rintro e w9 ⟨S,U,T,P,L,Q,M,rs,rfl,hA,_,Y⟩;clear i g;have⟨vs,zC⟩:=Ag (Bd (Bg v u) S U T P L Q M);rw[<-zC];have⟨C,hC⟩:=Ag (JS 0 vs n D)
   have I:=Yw (VC y hA Y (Dl xD.o) (H w9 (E.ag (Y.ai E.size))).2 zC hC);clear zC hC hA Y H y E;go_wp2_with (first
    |refine wpList_store_mid rfl 34 _ _ rfl d.1.size 1 (ei vs) rfl rfl I.1.2.2 (by rw[A0,I.1.1];kernel_rfl) (all_oneCell_toArray I.1.2.1) ?_
    |refine wpList_load_mid rfl 176 _ rfl d.1.size 0 rfl C _ I.2.1.range underlying176 rfl L7 ?_
    |refine wpList_store_mid rfl 176 _ _ rfl (w.1.size+1) 0 (ei C) rfl rfl I.2.2.1.2.2 (by rw[A0,I.2.2.1.1];kernel_rfl) (all_oneCell_toArray I.2.2.1.2.1) ?_)
   exact bodyPost_ret (AM results113 _ _ (w.1.size+1) C _ rfl (Aa.range I.2.2.2.1) underlying176 rfl L7) rfl ⟨an (u,n),C,O,rfl,I.2.2.2.2.1,I.2.2.2.2.2⟩
  have vD:¬(4000:Int)<=eh v.ss+m:=by have f:=zS.o;have F:=z.2;rw[Am]at f hfl;omega
  have vF:eh v.ss<=4000:=by have f:=zS.o;rw[Am]at f;omega
  have yU:m<=4000:=D9;obtain⟨dg,zK,xX,vA,xE⟩:=C.d.at (k:=0) (by rw[yE.o];simp);subst xX;have yD:Hid (¬dg=d.1.size/\¬Al (C3 c.V m c.T)=an dg/\¬Al D=an dg):=by
   have yN:∀g,RB b [c.Y,c.L,c.K,c.Z,c.g] zs g->¬g=d.1.size/\¬Al (C3 c.V m c.T)=an g/\¬Al D=an g:=λg j=>by have f:=zF.rr.ap g j;rw[<-z.1]at f;simp only[Cf,Bw,By]at f;exact⟨λe=>f (dp e),λe=>f (eb (dp e)),λe=>f (eb (eb e))⟩
   rcases C.fd ⟨dg,zK,ba⟩ rfl with f|⟨q,f,F⟩|⟨q,f,F⟩|f
   .exact yN dg (dp f)
   .exact yN dg (eb (dp ⟨q,by simp[f],F.symm⟩))
   .exact yN dg (eb (dp ⟨q,by simp[f],F.symm⟩))
   have F:=zA.1.size;refine⟨λe=> ?_,λe=> ?_,λe=> ?_⟩
   .have h3:W5.1.size<=dg:=f;omega
   .have h3:W5.1.size<=dg:=f;rw[z.1]at e;have h4:=(A.1.uo.bh e).2;omega
   have h3:W5.1.size<=dg:=f;have h4:=(A.1.U.bh e).2;omega
  have y:Hid (Fw v x.1.size d.1.size c b zs D n u l):=A.1.A G.2.2.1;have yV:Hid (∀X,Zz l X->∃k o Y,(Builtin.append_ #[23,23] 23 #[C3 c.V m c.T,Yz X.1.size 1 1]).run prog (X.alloc (ca #[C4 (II v.wd s)] 9))=.ok (C3 k (m+1) o) Y/\Y.1[d.1.size]?=X.1[d.1.size]? /\Tn (d.1.size::(Al (C3 c.V m c.T)).toList) X (ev Y (Zd (d.1.size) 4) (C3 k (m+1) o))/\Ak (ev Y (Zd (d.1.size) 4) (C3 k (m+1) o)) x.1.size (C3 k (m+1) o) ((Bg v u).C++[II v.wd s])/\∀g,Al (C3 k (m+1) o)=an g->Al (C3 c.V m c.T)=an g\/X.1.size<=g):=λX Z=>by
   have f:=y.uo.A Z;have F:=z.1;have h3:=MG X x.1.size d.1.size 4 _ _ (II v.wd s) f (λg j=>(y.ud g j).1) (by have:=y.box.lt;have:=Z.size;omega) (by have:=y.iz;have:=y.box.lt;have:=Z.size;omega) D9;rw[<-F]at h3;exact h3
  have I:Hid (∀X,D8 43 #[ct #[Zg 7,C4 s,Zc,Ze,Zc,Zb],Zg v.wd] X λe w'=>e=C5 (C4 (II v.wd s))/\Zz X w'):=λX=>IX 7 s ⟨#[]⟩ 0 ⟨#[]⟩ ba 0 [] v.wd X (dp rfl) (Aq _) (Aq _) (Aq _);have H8:Hid (∀X,Zz l X->Aa X d.1.size [Ze,Zg v.wd,Zg v.lim,C2 c.Y v.ss c.sc,C3 c.V m c.T,Zg v.J,Zg v.F,Zg v.G,Zg v.E,C6 b u.B c.W,C2 c.L v.ps c.P,C2 c.K v.ls c.O,Zg u.I,C2 c.Z u.H c.y,C2 c.g u.ms c.j,Zg u.N,Zg u.M,Zg u.ro,Zg n,D]/\Aa X w6.1.size [Ze,Zg v.J,Zg v.F,Zg v.G,Zg v.E,C6 b2 r.B tc,C2 c.L v.ps c.P,C2 c.K v.ls c.O,Zg r.I,C2 qa r.H qc,C2 ma r.ms mc,Zg r.N,Zg r.M,Zg r.ro,C2 (an ⟨dg,zK,ba⟩) r.ds dc]/\ek X (Zd dg zK)=an (C4 s)):=λX Z=>⟨J X (G.2.2.1.ag (Z.ai G.2.2.1.size)),Aa.A zJ Z,((G.2.2.2.ag (Z.ai G.2.2.2.size)).cell (p:=⟨dg,zK,ba⟩) vA).ag (by simpa using xE 0 s (by rw[yE.o];rfl))⟩;obtain⟨⟨k3,_⟩,⟨k4,_⟩,⟨yG,_⟩,d0,v0,_⟩:=(H8 l Ae).1 3 _ rfl,(H8 l Ae).1 4 _ rfl,(H8 l Ae).2.1 14 _ rfl,(H8 l Ae).2.2,(H l G.2.1).1 0 _ rfl;have yS:d.1.size<l.1.size:=Aa.lt (H8 l Ae).1;clear xE J zJ;go_upto_region 15 with fail;go_cut [] (λZ=>∃k o X,Hid (Zz l X/\Aa Z d.1.size [Ze,Zg v.wd,Zg v.lim,C2 c.Y v.ss c.sc,C3 k (m+1) o,Zg v.J,Zg v.F,Zg v.G,Zg v.E,C6 b u.B c.W,C2 c.L v.ps c.P,C2 c.K v.ls c.O,Zg u.I,C2 c.Z u.H c.y,C2 c.g u.ms c.j,Zg u.N,Zg u.M,Zg u.ro,Zg n,D]/\Tn (d.1.size::(Al (C3 c.V m c.T)).toList) X Z/\Ak Z x.1.size (C3 k (m+1) o) ((Bg v u).C++[II v.wd s])/\∀g,Al (C3 k (m+1) o)=an g->Al (C3 c.V m c.T)=an g\/X.1.size<=g))
  case first=>
   clear zI z A zF C zH y yD zS K zA k3
   go_region_law (first
    |(go_simp;go_at_call 43;refine(I l.drew).ai ?_;rintro e wf ⟨rfl,Z⟩;have bf:bs l.1.size l wf:=BO Z;have zf:=bf.size;have⟨k,o,Y,hr,hbY,hTY,hoY,hnY⟩:=yV wf bf;have hx:=(H8 wf bf).1;have n4:=(hx 4 _ rfl).1;have xY:=Aa.same hx hbY;obtain⟨y4,f4⟩:=xY 4 _ rfl;have a4:ek (wf.alloc (ca #[C4 (II v.wd s)] 9)) (Zd (d.1.size) 4)=an (C3 c.V m c.T):=(Aa.A hx (Zy) 4 _ rfl).1;have B:=Yw (Zn bf (Zn (xY.set 4 (C3 k (m+1) o)) (Zn hTY (Zn hoY hnY))));clear hx xY hTY hoY hnY hbY Z;go_wp2_with fail)
    |(refine Bu F1 (.tmp 75) (.tmp 84) 23 23 F1 F1 F1 hr ?_))
   all_goals
    go_wp2_with fail;go_meet;exact⟨k,o,wf,B⟩
  revert wc;intro zE hcut;obtain⟨k,o,X,HC⟩:=hcut;clear yV I k3 k4 yG d0 v0;have yM:Hid (Aa zE w6.1.size [Ze,Zg v.J,Zg v.F,Zg v.G,Zg v.E,C6 b2 r.B tc,C2 c.L v.ps c.P,C2 c.K v.ls c.O,Zg r.I,C2 qa r.H qc,C2 ma r.ms mc,Zg r.N,Zg r.M,Zg r.ro,C2 (an ⟨dg,zK,ba⟩) r.ds dc]/\ek zE (Zd dg zK)=an (C4 s)):=by
   have hx:=H8 X HC.1;have vG:∀g,Al (C3 c.V m c.T)=an g->g<wr.1.size:=λg j=>by rw[z.1]at j;exact(A.1.uo.bh j).2
   obtain⟨f,F,hz,tD⟩:=C.low.size,zA.1.size,HC.1.size,G.2.2.2.size;refine⟨Aa.same hx.2.1 (HC.2.2.1.block _ hx.2.1.lt (λE=> ?_)),(cell?_of_block (a:=⟨dg,zK,ba⟩) (HC.2.2.1.block dg D9 (λE=> ?_))).ag hx.2.2⟩
   .simp only[Cf,By]at E;rcases E with e|e
    .omega
    have:=vG _ e;omega
   simp only[Cf,By]at E;rcases E with e|e
   .exact yD.1 e
   exact yD.2.1 e
  have yW:Hid (Ak zE x.1.size D u.ds):=(y.U.A HC.1).S HC.2.2.1 (λg j E=>by
   simp only[Cf,By]at E;rcases E with e|e
   .exact y.dd g j e
   rw[z.1]at e;exact(y.ud g e).2 j)
  have zN:=HC.2.1;have yH:d.1.size<zE.1.size:=zN.lt;obtain⟨ea,ec,Y2,xG,yB,zU,zX,zV⟩:=MG zE.drew x.1.size d.1.size 19 D u.ds s (yW.A Ae.drew) (λg j=>y.dd g j) yH (by have:=y.iz;show _<=zE.1.size;omega) (Dl A.2.1.dl);have⟨zG,zM⟩:=D7 Y2 (d.1.size) 19 (C3 ea (eh u.ds+1) ec);have yP:Aa Y2 d.1.size [Ze,Zg v.wd,Zg v.lim,C2 c.Y v.ss c.sc,C3 k (m+1) o,Zg v.J,Zg v.F,Zg v.G,Zg v.E,C6 b u.B c.W,C2 c.L v.ps c.P,C2 c.K v.ls c.O,Zg u.I,C2 c.Z u.H c.y,C2 c.g u.ms c.j,Zg u.N,Zg u.M,Zg u.ro,Zg n,D]:=Aa.same zN yB;obtain⟨⟨vJ,_⟩,vT,xM⟩:=zN 19 _ rfl,yP 19 _ rfl;have xH:Aa zG d.1.size [Ze,Zg v.wd,Zg v.lim,C2 c.Y v.ss c.sc,C3 k (m+1) o,Zg v.J,Zg v.F,Zg v.G,Zg v.E,C6 b u.B c.W,C2 c.L v.ps c.P,C2 c.K v.ls c.O,Zg u.I,C2 c.Z u.H c.y,C2 c.g u.ms c.j,Zg u.N,Zg u.M,Zg u.ro,Zg n,C3 ea (eh u.ds+1) ec]:=by rw[zM];exact yP.set 19 _
  rw[<-zM]at zU zX;have yF:Tn (d.1.size::(Al D).toList) zE zG:=((Tn.of (V:=[]) (Below.refl zE.1.size zE).drew).ai E7).ag zU;have yJ:Hid (Tn (d.1.size::((Al (C3 c.V m c.T)).toList++(Al D).toList)) l zG):=((Tn.of (V:=[]) HC.1).ai E7).ag ((HC.2.2.1.ai (by simp;exact λb h=> eb (dp h))).ag (yF.ai (by simp;exact λb h=> eb (eb h))));have vZ:=HC.1.size;have xK:=HC.2.2.1.size;have xA:Hid (Ak zG x.1.size (C3 k (m+1) o) ((Bg v u).C++[II v.wd s])):=HC.2.2.2.1.S yF (λg j E=>by
   simp only[Cf,By]at E;have F:=y.box.lt;rcases E with e|e
   .rcases HC.2.2.2.2 g j with f|f
    .rw[z.1]at f;exact(y.ud g f).1 e
    omega
   rcases HC.2.2.2.2 g j with f|f
   .rw[z.1]at f;exact(y.ud g f).2 e
   have:=(y.U.bh e).2;omega)
  have yX:Hid (Ak zG x.1.size (C3 ea (eh u.ds+1) ec) (u.ds++[s])):=zX;have yK:Hid (∀g,Al (C3 k (m+1) o)=an g->Al (C3 c.V m c.T)=an g\/l.1.size<=g):=λg j=>by
   rcases HC.2.2.2.2 g j with f|f
   .exact dp f
   exact eb D9
  have yI:Hid (∀g,Al (C3 ea (eh u.ds+1) ec)=an g->Al D=an g\/zE.1.size<=g):=zV;have yZ:Hid (∀g,Al (C3 k (m+1) o)=an g->Al (C3 ea (eh u.ds+1) ec)≠an g):=λg j Z=>by
   have h3:=(HC.2.2.2.1.bh j).2;rcases zV g Z with f|f
   .rcases HC.2.2.2.2 g j with F|F
    .rw[z.1]at F;exact(y.ud g F).2 f
    have:=(y.U.bh f).2;omega
   have h4:zE.1.size<=g:=f;omega
  have xJ:=y.box.lt;have xB:Hid (∀g,Al (C3 k (m+1) o)=an g->¬g=d.1.size):=λg j e=>by
   rcases yK g j with f|f
   .rw[z.1]at f;exact(y.ud g f).1 e
   omega
  have yY:Hid (∀g,Al (C3 ea (eh u.ds+1) ec)=an g->¬g=d.1.size):=λg j e=>by
   rcases yI g j with f|f
   .exact y.dd g f e
   omega
  have Z:Hid (∀g,Al (C3 ea (eh u.ds+1) ec)=an g->Al D=an g\/l.1.size<=g):=λg j=>by
   rcases yI g j with f|f
   .exact dp f
   exact eb D9
  have xC:Hid (∀g∈d.1.size::((Al (C3 c.V m c.T)).toList++(Al D).toList),x.1.size<=g):=λg j=>by
   simp only[Cf,Bw,By]at j;have f:=y.iz;rcases j with F|F|F
   .omega
   .rw[z.1]at F;exact(y.uo.bh F).1
   exact(y.U.bh F).1
  have zP:(Bg v (u.and r)).C=(Bg v u).C++[II v.wd s]:=by have:=yE.o;simp[Bg,UR.and,this]
  have zZ:eh (Bg v (u.and r)).C=m+1:=by rw[zP,Am,<-z.1];rfl
  have h6:=yM.1;have vI:=h6.lt;have yR:¬w6.1.size=d.1.size:=I8;have HY:Hid (Aa zG d.1.size [Ze,Zg v.wd,Zg v.lim,C2 c.Y v.ss c.sc,C3 k (m+1) o,Zg v.J,Zg v.F,Zg v.G,Zg v.E,C6 b u.B c.W,C2 c.L v.ps c.P,C2 c.K v.ls c.O,Zg u.I,C2 c.Z u.H c.y,C2 c.g u.ms c.j,Zg u.N,Zg u.M,Zg u.ro,Zg n,C3 ea (eh u.ds+1) ec]/\Aa zG w6.1.size [Ze,Zg v.J,Zg v.F,Zg v.G,Zg v.E,C6 b2 r.B tc,C2 c.L v.ps c.P,C2 c.K v.ls c.O,Zg r.I,C2 qa r.H qc,C2 ma r.ms mc,Zg r.N,Zg r.M,Zg r.ro,C2 (an ⟨dg,zK,ba⟩) r.ds dc]):=⟨xH,Aa.same h6 (yF.block _ vI (λE=>by
   simp only[Cf,By]at E;rcases E with e|e
   .exact yR e
   have f:=(A.1.U.bh e).2;have F:=C.low.size;have h3:=zA.1.size;omega))⟩
  obtain⟨yG,_⟩:=h6 14 _ rfl;have d0:=yM.2;have vX:dg<zE.1.size:=Dl G.2.2.2.size;have yA:=Yw zM;clear h6 zM zN yP zU zX zV xH yF yB;go_upto_region 16 with fail
  go_region_law (first
   |(refine Bu F1 (.tmp 90) (.tmp 95) 23 23 F1 F1 F1 xG ?_))
  all_goals
   clear xG vJ yG d0;go_upto_region 17 with fail;rw[<-yA.o];clear yA vT xM;have i:=HY.o;have⟨W9,zO⟩:=Ag (ev (ev (ev (ev (ev (ev (ev (ev (ev (ev (ev (ev (ev (ev zG (Zd (d.1.size) 5) (Zg v.J)) (Zd (d.1.size) 6) (Zg v.F)) (Zd (d.1.size) 7) (Zg v.G)) (Zd (d.1.size) 8) (Zg v.E)) (Zd (d.1.size) 9) (C6 b2 r.B tc)) (Zd (d.1.size) 10) (C2 c.L v.ps c.P)) (Zd (d.1.size) 11) (C2 c.K v.ls c.O)) (Zd (d.1.size) 12) (Zg r.I)) (Zd (d.1.size) 13) (C2 qa r.H qc)) (Zd (d.1.size) 14) (C2 ma r.ms mc)) (Zd (d.1.size) 15) (Zg r.N)) (Zd (d.1.size) 16) (Zg r.M)) (Zd (d.1.size) 17) (Zg r.ro)) (Zd (d.1.size) 18) (Zg (n+1)));have zB:=Adl i.1 zO;have B:Hid (Fw v x.1.size d.1.size {Vz c b2 tc qa ma qc mc with V:=k,T:=o} b2 xI (C3 ea (eh u.ds+1) ec) (n+1) (u.and r) W9/\Mq v.E v.B v.ps v.ls (4000 -eh (v.ss++v.C)) (u.and r)/\n+1<=N/\Zz x W9):=by
    refine⟨zF.next C G.2.2.2 (V:=d.1.size::((Al (C3 c.V m c.T)).toList++(Al D).toList)) ((λ(h:Tn [d.1.size] zG W9)=>yJ.ag (h.ai E7)) zB.2) (λg j=>by simp only[Cf,Bw,By]at j;rw[<-z.1];exact j) (U':=C3 k (m+1) o) rfl (by rw[zP];exact xA.S zB.2 (λg j E=>xB g j (D2 E))) (by rw[yE.o];exact yX.S zB.2 (λg j E=>yY g j (D2 E))) (λg j=>by rw[<-z.1];exact yK g j) Z yZ ?_,A.2.1.step zH hro D9 D9 (eb hfl),hlt,?_⟩
    .unfold oC;rw[zZ];exact zB.1
    exact G.2.1.ag (((λ(h:Tn [d.1.size] zG W9)=>yJ.ag (h.ai E7)) zB.2).A G.2.1.size (λg j=>xC g j))
   have HM:Hid (N -LI d.1.size W9<N -LI d.1.size wr):=(by show _<_;rw[B.1.jg,A.1.jg];omega);obtain⟨⟨z1,_⟩,⟨z2,_⟩,⟨z3,_⟩,⟨z4,_⟩,⟨z5,_⟩,⟨z6,_⟩,⟨z7,_⟩,⟨z8,_⟩,⟨z9,_⟩,⟨vU,_⟩,⟨vV,_⟩,⟨z12,_⟩,⟨vW,_⟩,o5,g5⟩:=i.2 1 _ rfl,i.2 2 _ rfl,i.2 3 _ rfl,i.2 4 _ rfl,i.2 5 _ rfl,i.2 6 _ rfl,i.2 7 _ rfl,i.2 8 _ rfl,i.2 9 _ rfl,i.2 10 _ rfl,i.2 11 _ rfl,i.2 12 _ rfl,i.2 13 _ rfl,i.1 5 _ rfl;obtain⟨⟨o6,g6⟩,⟨o7,g7⟩,⟨o8,g8⟩,⟨o9,g9⟩,⟨vK,xN⟩,⟨vL,xO⟩,⟨vM,xP⟩,⟨vN,xQ⟩,⟨vO,xR⟩,⟨vP,xS⟩,⟨vQ,xT⟩,⟨vR,xU⟩,⟨vS,xW⟩,yL⟩:=i.1 6 _ rfl,i.1 7 _ rfl,i.1 8 _ rfl,i.1 9 _ rfl,i.1 10 _ rfl,i.1 11 _ rfl,i.1 12 _ rfl,i.1 13 _ rfl,i.1 14 _ rfl,i.1 15 _ rfl,i.1 16 _ rfl,i.1 17 _ rfl,i.1 18 _ rfl,Yw zO;have yO:¬w6.1.size=d.1.size:=I8;have yQ:¬d.1.size=w6.1.size:=λe=>yO e.symm;clear i zB zO zP zZ z HY C zH zF y yJ xA yX yK yI yZ HC yM yW yD H8 xB yY Z xC;go_wp2;rw[<-yL.o];exact⟨⟨_,_,_,_,n+1,u.and r,B⟩,HM⟩
theorem KS:Oc v0:=⟨Kw,(λk a=>by cases a),KP,rfl,Aq _,Aq _⟩
theorem Dp.ja{b:Int}{e:Zl}{c:Int}(h:Dp i b e f c v):∀k∈v.B,JM k:=by
 rcases h with⟨_,_,rfl⟩|⟨g,⟨_,_,rfl⟩|⟨r,a,_,rfl⟩⟩
 .exact KS.sm
 .exact KS.sm
 exact Vx (a.tok (by intro k d;cases d)) (a.ok (DH g.1.1 g.1.2)).bk.sz
theorem Dp.jb{b:Int}{e:Zl}{c:Int}(h:Dp i b e f c v):Ic v.B v.ps v.ls:=by
 rcases h with⟨_,_,rfl⟩|⟨g,⟨_,_,rfl⟩|⟨r,a,_,rfl⟩⟩
 .exact KP
 .exact KP
 exact Vw (a.ok (DH g.1.1 g.1.2)) (a.rx (DH g.1.1 g.1.2) ⟨by simp[r0],by simp[r0],by simp[r0],by simp[r0],by simp[r0]⟩) (a.pn (by intro p d;cases d)) g.1.2
theorem Dp.lg{e a:Int}{b d:Zl}{c:Int}(h:Dp e a b d c v):BG v.ss v.C=bg:=by
 rcases h with⟨_,_,rfl⟩|⟨g,⟨_,_,rfl⟩|⟨r,f,_,rfl⟩⟩
 .rfl
 .rfl
 exact g.2.2
theorem Dp.rq{e a:Int}{b d:Zl}{c:Int}(h:Dp e a b d c v):eh v.H<=30000/\eh v.ms<=30000:=by rcases h with⟨_,_,rfl⟩|⟨g,⟨_,_,rfl⟩|⟨r,f,_,rfl⟩⟩<;>exact⟨Aq _,Aq _⟩
theorem Fl.rq(h:Fl v (an (u,n))):eh u.H<=30000/\eh u.ms<=30000:=by obtain⟨⟨r,b⟩,a⟩:=h _ rfl;exact⟨Zm a.ql Yq,Zm a.ml Yq⟩
theorem Fl.lg(h:Fl v (an (u,n)))(f:BG v.ss v.C=bg):BG (Bg v u).ss (Bg v u).C=bg:=by
 obtain⟨⟨r,g⟩,d⟩:=h _ rfl;have b:=d.df;have c:=CM.1 f;rw[Am]at b;simp only at b;refine CM.2 ⟨?_,λs e=> ?_⟩
 .show (eh v.ss)+eh (v.C++u.ds.map (II v.wd))<=4000;rw[Am,B0];omega
 have a:s∈v.ss++(v.C++u.ds.map (II v.wd)):=e;rw[<-append_assoc]at a;rcases Bw.1 a with h|h
 .exact c.2 s h
 obtain⟨x,_,rfl⟩:=mem_map.1 h;exact Qm v.wd x
theorem Ic.sub{d c:C9}{f:Db}{e:Da}(h:Ic d f e)(b:c.Sublist d):Ic c f e:=
 ⟨⟨Zm b.length_le h.k.len,λk a=>h.k.sum k (b.subset a),λk a=>h.k.i k (b.subset a),λk a=>h.k.D k (b.subset a),λk a=>h.k.ref k (b.subset a)⟩,h.p,h.l,λk a=>h.b k (b.subset a),Zm b.length_le h.n.1,h.n.2⟩
theorem Fl.ja(h:Fl v (an (u,n)))(b:∀k∈v.B,JM k):∀k∈(Bg v u).B,JM k:=by exact λk a=>b k ((h _ rfl).2.sub.subset a)
theorem Fl.jb(h:Fl v (an (u,n)))(a:Ic v.B v.ps v.ls):Ic (Bg v u).B (Bg v u).ps (Bg v u).ls:=by exact a.sub (h _ rfl).2.sub
def VRv(w:Zh)(o:Ending)(w':Zh):Prop:=∃vs,o=.returned (ct (ei vs))/\RV w.1.size w' vs/\Zz w w'
theorem VD{m:Nat}{A:Zj}(z:RV m w A):D8 111 #[ct (ei A)] w (VRv w):=by
 obtain⟨v,a,⟨b,n,o,g,l⟩,rfl,c,d⟩:=z.F;refine(Vs (eb ⟨rfl,rfl,rfl,rfl⟩) v _ _ _ _ _ (Ap v.ss v.C (eh v.C)) w rfl (λY f=>DJ (c.X f) d.cap b) ?_ (λ_ Y f=>Aak _ _ (c.X f).s (c.X f).t d.s.2 d.t.2 b.s b.t b.ss b.C)).ai ?_
 .intro t Y f;refine(Gk v a Y ((d.cp c b t).A f)).ai ?_;rintro e C ⟨S,U,T,P,L,Q,M,j,rfl,i,_,p⟩;exact⟨S,U,T,P,L,Q,M,j,rfl,i,p⟩
 rintro e B ⟨u,S,U,T,P,L,Q,M,j,y,rfl,q,r⟩;refine⟨_,rfl,q.rv ?_,r⟩;rcases y with⟨_,rfl⟩|⟨_,rfl⟩
 .exact KS
 obtain⟨c,d⟩:=Hp (k:=eh v.C) b.ss b.C;refine⟨⟨c,by simp[CK],d,by simp[CK],b.st,b.r⟩,n,o,?_,l⟩;have i:=CM.1 g;have e:Ap v.ss v.C (eh v.C)=v.ss++v.C:=by simp[Ap,g]
 refine CM.2 ⟨?_,λs x=> ?_⟩
 .show eh (Ap v.ss v.C (eh v.C))+0<=4000;rw[e,Am];omega
 have h:s∈Ap v.ss v.C (eh v.C)++[]:=x;rw[e,append_nil]at h;exact i.2 s h
theorem Qu(l j:Int)(a b:Zk)(c d:Nat)(h i:Zl)(w:Zh)(r:Ab w w.1.size a h)(q:Ab w w.1.size b i)(o:a=ba->eh h=0/\c=0)(p:b=ba->eh i=0/\d=0)(f:Ada h i):
 D8 66 #[Zg l,Zg j,ct #[C3 a (eh h) c,C3 b (eh i) d]] w λe k=>∃c g,e=C5 (.tuple #[ct (ei g),Zg c])/\RV w.1.size k g/\Zz w k:=by
 refine(Od l j b c d i r q o p f.s f.t f.ss f.C).ai ?_;rintro e k ⟨c,u,S,U,T,P,L,Q,M,s,g,rfl,m,n⟩;exact⟨c,Bd u S U T P L Q M,rfl,m.rv ⟨g.fit f,g.ja,g.jb,g.lg,g.rq⟩,n⟩
theorem XT{m:Nat}{A:Zj}(k:Int)(E:RV m w A)(q:0<=k):D8 112 #[ct (ei A),Zg k] w (VRv w):=by
 obtain⟨v,a,⟨b,_,_,_,_⟩,rfl,o,f⟩:=E.F;obtain⟨j,l⟩:=Hp (k:=k) b.ss b.C;refine(YQ (eb ⟨rfl,rfl,rfl,rfl⟩) v _ _ _ k (Ap v.ss v.C k) Oc w rfl (λY g=>DJ (o.X g) f.cap b) (λ_ Y g=> ?_) (λ_ Y u n g d=> ?_)).ai ?_
 .have i:=o.X g;rcases hta:a.V with _|A
  .obtain⟨g,s⟩:=f.t.2 hta;have t:=B8 g;rw[g,s,t];exact Vg _ k q i.s f.s.2 b.s b.ss
  have p:=i.t;rw[hta]at p;exact Vf A _ _ k q i.s p f.s.2 b.s b.t b.ss b.C f.t.1
 .obtain⟨a,c,rfl,D,C⟩:=RT d;refine(Od v.wd v.lim ba c 0 [] D (dp rfl) C (λ_=>⟨rfl,rfl⟩) j Yu l Yu).ai ?_;rintro e G ⟨c,u,S,U,T,P,L,Q,M,r,d,rfl,x,y⟩;exact⟨c,u,S,U,T,P,L,Q,M,r,⟨d.fit ⟨j,Yu,l,Yu⟩,d.ja,d.jb,d.lg,d.rq⟩,rfl,x,y⟩
 rintro e F ⟨u,S,U,T,P,L,Q,M,r,d,rfl,z,B⟩;refine⟨_,rfl,z.rv ?_,B⟩;rcases d with⟨_,rfl⟩|⟨_,h⟩
 .exact KS
 exact h
theorem Fl.fitv(h:Fl v (an (u,n)))(a:Dz v):Dz (Bg v u):=by
 obtain⟨⟨r,e⟩,b⟩:=h _ rfl;obtain⟨f,d,g,i,j⟩:=b.dl,b.df,DQ e.log,b.ql,b.ml;rw[Am]at g d;simp only at f d i j;refine⟨a.s,?_,a.ss,?_,⟨by show eh u.B<=_;omega,λk c=>Dl (b.w.cz k c),a.st.p,a.st.l⟩,⟨by show eh u.H<=_;omega,by show eh u.ms<=_;omega⟩⟩
 .show eh (v.C++u.ds.map (II v.wd))<=_;rw[Am,B0];omega
 intro s c;rcases Bw.1 c with c|c
 .exact a.C s c
 obtain⟨x,_,rfl⟩:=mem_map.1 c;have:=Qm v.wd x;omega
theorem VE{m:Nat}{A:Zj}(k:Int)(z:RV m w A):D8 113 #[ct (ei A),Zg k] w λe d=>∃c b n D,e=C5 (ct (ei (JS c b n D)))/\D.oneCell'=bg/\RV w.1.size d b/\Zz w d:=by
 obtain⟨v,a,⟨f,r,s,q,_⟩,rfl,g,i⟩:=z.F;refine(TB k g i.cap f (λh=>i.cp g f h)).ai ?_;rintro e d ⟨o,t,b,rfl,j,l⟩;rcases o with _|⟨u,n⟩
 .have p:t=z20 1:=j;subst p;exact⟨1,_,0,Zb,rfl,rfl,(AF.nil d w.1.size).rv KS,l⟩
 obtain⟨S,U,T,P,L,Q,M,B,D,rfl,x,y,_⟩:=j;obtain⟨_,_,rfl,_⟩:=y.row;exact⟨0,_,n,_,rfl,rfl,x.rv ⟨b.fitv f,b.ja r,b.jb s,b.lg q,b.rq⟩,l⟩
theorem RZ(n:Nat)(w:Zh):RV n w AU:=⟨v0,KS,λ_ a _ _=>(AF.nil a 0).je⟩
theorem Abc{d h:Dd}{a:Zj}(i:Aa W q (dL h AU))(j:q<W.1.size)(e:Zz W X)(f:RV W.1.size X a):
 (eh (dL d a)=22/\∀u∈dL d a,u.oneCell'=bg)/\X.there q 0 (ei (dL d a)).size/\∃c b,Aa (X.setCells q 0 (ei (dL d a)).toList) q (dL c b)/\RV W.1.size (X.setCells q 0 (ei (dL d a)).toList) b/\Tn [q] W (X.setCells q 0 (ei (dL d a)).toList):=by
 obtain⟨c,g,b⟩:=My (d:=d) f.len,AD q (dL d a) 0 X,Aa.same i (e.block q j);refine⟨c,?_,d,a,b.aw _ (by rw[c.1];rfl),f.S g Yt,(Tn.of e).ag g⟩;rw[show(ei (dL d a)).size=22 from by rw[A0];exact c.1];exact b.there
theorem JG{b:Zi}{v:D4}(h:∃g c,∃a:Zl,v=ct #[C4 b,Yz g (eh a) c]/\Ab X X.1.size (an ⟨g,0,ba⟩) a/\eh a<=4)(i:Zz X Y):∃g c,∃a:Zl,v=ct #[C4 b,Yz g (eh a) c]/\Ab Y Y.1.size (an ⟨g,0,ba⟩) a/\eh a<=4:=by obtain⟨g,c,a,d,e,f⟩:=h;exact⟨g,c,a,d,e.X i,f⟩
theorem JH{v:D4}(h:∃d a,v=ct (ei (dL d a))/\RV n X a)(e:Zz X Y):∃d a,v=ct (ei (dL d a))/\RV n Y a:=by obtain⟨d,a,b,c⟩:=h;exact⟨d,a,b,c.A e⟩
theorem Sa{p:Nat->Prop}{a:Zj}(l:Aa W q AU)(g:Tn V W X)(j:q∉V)(m:w.1.size<=q)(i:∀b∈V,w.1.size<=b)(h:q<W.1.size)(c:Zz w W)(f:eh a=17)(k:CS p (X.setCells q 0 (ei a).toList) a):
 X.there q 0 (ei a).size/\Aa (X.setCells q 0 (ei a).toList) q a/\∃d,Ending.returned (ct (ei a))=C5 (ct (ei d))/\CS p (X.setCells q 0 (ei a).toList) d/\Zz w (X.setCells q 0 (ei a).toList):=by
 have d:=Aa.same l (g.block q h j);have e:=c.ag (g.A c.size i);refine⟨?_,d.aw a (by rw[f];rfl),a,rfl,k,e.ag ((AD q a 0 X).A e.size Yt)⟩;rw[show (ei a).size=17 from by rw[A0];exact f];exact d.there
theorem OL{p:Nat->Prop}{a:Zj}(k:Aa W q AU)(l:Tn V W X)(j:q∉V)(g:w.1.size<=q)(h:∀b∈V,w.1.size<=b)(f:q<W.1.size)(c:Zz w W)(d:RV W.1.size X a)(i:∀b,p b->b<w.1.size):
 X.there q 0 (ei a).size/\Aa (X.setCells q 0 (ei a).toList) q a/\∃e,Ending.returned (ct (ei a))=C5 (ct (ei e))/\CS p (X.setCells q 0 (ei a).toList) e/\Zz w (X.setCells q 0 (ei a).toList):=
 Sa k l j g h f c d.len.1 ((d.S (AD q a 0 X) Yt).p (λb e=>by have:=i b e;have:=c.size;omega))
theorem Aej{p:Nat->Prop}{a:Zj}(k:Aa W q AU)(g:Tn V W X)(j:q∉V)(i:w.1.size<=q)(d:∀b∈V,w.1.size<=b)(h:q<W.1.size)(c:Zz w W)(f:CS p w a):
 X.there q 0 (ei a).size/\Aa (X.setCells q 0 (ei a).toList) q a/\∃e,Ending.returned (ct (ei a))=C5 (ct (ei e))/\CS p (X.setCells q 0 (ei a).toList) e/\Zz w (X.setCells q 0 (ei a).toList):=by
 have e:=c.ag (g.A c.size d);exact Sa k g j i d h c f.zero.len.1 (f.A (e.ag ((AD q a 0 X).A e.size Yt)))
theorem XU{p:Nat->Prop}{A:Zj}(r N G F:Int)(L H:Zi)(hm:∀b,p b->b<w.1.size)(I:CS p w A)(ht:L.size<=16)(zP:0<=N)(zW:N<8)(hn:H.size<=1)(zC:0<=G)(zU:G<40):
 D8 69 #[ct (ei A),ct #[Zg r,C4 L,Zg N,C4 H,Zg G,Zg F]] w λe a=>∃j,e=C5 (ct (ei j))/\CS p a j/\Zz w a:=by
 have⟨J,a⟩:=Ag (((w.alloc (ca (ei A) 34)).alloc (ca #[Zg r,C4 L,Zg N,C4 H,Zg G,Zg F] 133)).alloc (ca Xo 34));have⟨W4,f⟩:=D6 J Xk 166;obtain⟨⟨W,q⟩,R,b,S,d⟩:=Ag (W4.setCells J.1.size 0 (ei (Xj 1)).toList),(BI a).1,(BI a).2.1,(Ax f).1,(Ax f).2.1;have U:Aa W4 J.1.size Fg:=(Ax (l:=Fg) f).2.2;have T:Tn [J.1.size] W4 W:=by rw[q];exact AD _ _ _ _
 have M:Hid (W4.there J.1.size 0 22):=U.there;have hs:∀{B:Nat} {v:D4} {l:Zj},B<J.1.size->Aa J B (v::l)->Aa W B (v::l):=λy h=>Aa.same (Aa.A h S) (T.block _ Yv Yt);have C:=I.zero.len.1;have y:Aa W w.1.size A:=by
  have⟨c,l,hl⟩:∃c l,A=c::l:=by cases A with|nil=>simp at C|cons c l=>exact⟨c,l,rfl⟩
  have:=(BI a).2.2.1;rw[hl]at this |-;exact hs Yv this
 have HX:Hid (Aa W w.1.size A/\Aa W (w.1.size+1) [Zg r,C4 L,Zg N,C4 H,Zg G,Zg F]/\Aa W (w.1.size+1+1) AU/\Aa W J.1.size (dL (Fv 1 v0 ⟨#[]⟩ ⟨#[]⟩) AU)):=⟨y,hs Yv (BI a).2.2.2.1,hs Yv (BI (m:=AU) a).2.2.2.2,by rw[q];exact U.aw _ rfl⟩;have bW:bs w.1.size w W:=R.ag ((S.ai R.size).ag (T.A Yv Yt));have O:Hid (Zz w W/\J.1.size=w.1.size+3/\W.1.size=w.1.size+4):=⟨bW,b,by rw[q,JP];omega⟩;have P:Hid (eh A=17):=C;have HV:Hid (CS p w A):=I;have zO:Hid (∀u∈A,u.oneCell'=bg):=I.zero.len.2;obtain⟨Q,z,Z⟩:=Yw a,Yw f,Yw q;clear q I a f R b S d U T hs y C bW;delta D8;go_in;go_upto_region 1 with fail;rw[<-Q.o];go_upto_region 2 with(refine wpList_store_mid rfl 166 _ _ rfl J.1.size 0 (Xi 1) rfl rfl (by rw[<-z.o];exact M.o) Yr Yr ?_);rw[<-z.o,<-Z.o];clear Q z Z M;obtain⟨y0,_⟩:=HX.2.1 0 _ rfl;go_upto_block 0 with fail;go_cut [] (λa=>Hid (∃d j,Aa a J.1.size (dL d j)/\RV W.1.size a j/\Tn [J.1.size] W a))
 case first=>
  have Z:Hid (RV 0 W A):=(HV.A O.1).zero;have⟨u,a,C,y,f,Q⟩:=Z.F;have HK:Hid (∀X,Zz W X->Br X X.1.size a.Q u.B/\AR X X.1.size a.K u.ls):=λX q=>⟨(f.X q).st.k,(f.X q).st.l⟩;have I:Hid (∀X,Zz W X->Aa X w.1.size A):=λX q=>Aa.same HX.1 (q.block _ (Dl O.o));have b:Hid (∀X,Zz W X->X.rangeAt w.1.size 4 (C7 u.J u.F u.G u.E a.Q u.B a.W a.L u.ps a.P a.K u.ls a.O)):=λX q=>by have h:=I X q;rw[y]at h;exact Aa.dq [Zg u.wd,Zg u.lim,C2 a.Y u.ss a.sc,C2 a.V u.C a.T] (C7 u.J u.F u.G u.E a.Q u.B a.W a.L u.ps a.P a.K u.ls a.O) (Xu u.I a.Z (eh u.H) a.y a.g (eh u.ms) a.j u.N u.M u.ro) h
  have M:Hid (∀X,Zz W X->Aa X (w.1.size+1) [Zg r,C4 L,Zg N,C4 H,Zg G,Zg F]):=λX q=>Aa.A HX.2.1 q;have zE:Hid (eh u.B<=1048576/\eh u.ls<=1048576):=⟨C.fit.st.k,C.fit.st.l⟩;have zA:Hid (∀(d:Dd) j X,Zz W X->RV W.1.size X j->(eh (dL d j)=22/\∀u∈dL d j,u.oneCell'=bg)/\X.there J.1.size 0 (ei (dL d j)).size/\∃R z,Aa (X.setCells J.1.size 0 (ei (dL d j)).toList) J.1.size (dL R z)/\RV W.1.size (X.setCells J.1.size 0 (ei (dL d j)).toList) z/\Tn [J.1.size] W (X.setCells J.1.size 0 (ei (dL d j)).toList)):=λd j X q z=>Abc HX.2.2.2 (Dl O.o) q z;obtain⟨zB,zN,bW⟩:=Yw HX.2.2.1,Yw HX.2.2.2,O.1;clear y f Q C HX;by_cases k1:r=1
  case' pos=>
   have q1:(r==1)=bg:=D2 k1
   clear k1;go_upto_region 4 with fail;refine DO [11,12,13,14,15,16,17,18] 8 rfl _ rfl Yr Yr Yr Yr Yr Yq Yr (λ_ X=>Zz W X) (λi X v=>match i with
    |0=>v=ct (ei A)
    |1=>v=ct #[Zg r,C4 L,Zg N,C4 H,Zg G,Zg F]
    |2=>v=Yx w.1.size 4
    |3=>v=ct (C8 u.J u.F u.G u.E a.Q u.B a.W a.L u.ps a.P a.K u.ls a.O)
    |4=>∃g c rs,v=ct #[C4 L,C6 g rs c]/\Ab X X.1.size (an ⟨g,0,ba⟩) rs/\eh rs<=4
    |5=>v=Yx (w.1.size+1) 5
    |6=>v=Zg F
    |7=>∃d j,v=ct (ei (dL d j))/\RV W.1.size X j
    |_=>True) (λX Y=>Zz X Y) ?_ Ae.drew ?_ ?_
   .intro i X Y v S hT;rcases i with _|_|_|_|_|_|_|_|_<;>first
     |exact hT
     |exact JG hT S
     |exact JH hT S
   .intro i o k x X hi ho hk f C K q;rcases(show i=0\/i=1\/i=2\/i=3\/i=4\/i=5\/i=6\/i=7 by omega)with rfl|rfl|rfl|rfl|rfl|rfl|rfl|rfl<;>cases ho<;>simp only[AY,Act.put,Zq,Zp,Zo]at q |-
    .refine wp_load_mid 34 _ rfl w.1.size 0 rfl A _ (I X f).range underlying34 rfl G1 ?_;exact q.out _ X rfl Ae f
    .refine wp_load_mid 133 _ rfl (w.1.size+1) 0 rfl [Zg r,C4 L,Zg N,C4 H,Zg G,Zg F] _ (M X f).range underlying133 rfl Yr ?_;exact q.out _ X rfl Ae f
    .go_simp;exact q.out _ X rfl Ae f
    .have d2:=C ⟨2,ed⟩ Yu Yp;rw[show x 2=Yx w.1.size 4 from d2]at q |-;refine wp_load_mid 30 _ rfl w.1.size 4 rfl (C7 u.J u.F u.G u.E a.Q u.B a.W a.L u.ps a.P a.K u.ls a.O) _ (b X f) underlying30 rfl Yr ?_;exact q.out _ X rfl Ae f
    .have d1:=C ⟨1,ed⟩ Yu Yp;have d3:=C ⟨3,ed⟩ Yu Yp;rw[show x 1=ct #[Zg r,C4 L,Zg N,C4 H,Zg G,Zg F]from d1,show x 3=ct (C8 u.J u.F u.G u.E a.Q u.B a.W a.L u.ps a.P a.K u.ls a.O) from d3]at q |-;go_simp;refine(Qq r N G F L H u.J u.F u.G u.E a.L a.K a.W (eh u.ps) a.P (eh u.ls) a.O (HK X f).1 zC Yv zP Yv zE.1).ai ?_;rintro e U ⟨g,c,rs,rfl,hs,hl,_,y⟩;exact q.out _ U ⟨g,c,rs,rfl,Ab.own hs,hl⟩ y (f.ag (y.ai f.size))
    .go_simp;exact q.out _ X rfl Ae f
    .have d5:=C ⟨5,ed⟩ Yu Yp;rw[show x 5=Yx (w.1.size+1) 5 from d5]at q |-;obtain⟨c1,_⟩:=M X f 5 _ rfl;go_simp;exact q.out _ X rfl Ae f
    have d0:=C ⟨0,ed⟩ Yu Yp;have d4:=C ⟨4,ed⟩ Yu Yp;have d6:=C ⟨6,ed⟩ Yu Yp;obtain⟨g,c,rs,e4,hs,hl⟩:=d4;rw[show x 0=ct (ei A) from d0,e4,show x 6=Zg F from d6]at q |-;go_simp;refine(Aba L c F (Z.A f) hs (λe=>by cases e) Yv Yo).ai ?_;rintro e U ⟨d,j,rfl,z,y⟩;exact q.out _ U ⟨d,j,rfl,z.ai f.size⟩ y (f.ag (y.ai f.size))
   intro x X f hT K q;simp only[AY,Act.put,Zq,Zp,Zo];obtain⟨d,j,e1,z⟩:=hT 7 Yq
  case' neg=>
   have q1:(r==1)=bq:=D2 k1;clear k1;by_cases k2:r=2
   case' pos=>
    have q2:(r==2)=bg:=D2 k2
    clear k2;go_upto_region 6 with fail;refine DO [21,22,23,24,25,26,27,28] 8 rfl _ rfl Yr Yr Yr Yr Yr Yq Yr (λ_ X=>Zz W X) (λi X v=>match i with
     |0=>v=ct (ei A)
     |1=>v=Yx (w.1.size+1) 3
     |2=>v=C4 H
     |3=>v=ct #[Zg r,C4 L,Zg N,C4 H,Zg G,Zg F]
     |4=>v=Yx w.1.size 4
     |5=>v=ct (C8 u.J u.F u.G u.E a.Q u.B a.W a.L u.ps a.P a.K u.ls a.O)
     |6=>∃s,v=C4 s
     |7=>∃d j,v=ct (ei (dL d j))/\RV W.1.size X j
     |_=>True) (λX Y=>Zz X Y) ?_ Ae.drew ?_ ?_
    .intro i X Y v S hT;rcases i with _|_|_|_|_|_|_|_|_<;>first
      |exact hT
      |exact JG hT S
      |exact JH hT S
    .intro i o k x X hi ho hk f C K q;rcases(show i=0\/i=1\/i=2\/i=3\/i=4\/i=5\/i=6\/i=7 by omega)with rfl|rfl|rfl|rfl|rfl|rfl|rfl|rfl<;>cases ho<;>simp only[AY,Act.put,Zq,Zp,Zo]at q |-
     .refine wp_load_mid 34 _ rfl w.1.size 0 rfl A _ (I X f).range underlying34 rfl G1 ?_;exact q.out _ X rfl Ae f
     .go_simp;exact q.out _ X rfl Ae f
     .have d1:=C ⟨1,ed⟩ Yu Yp;rw[show x 1=Yx (w.1.size+1) 3 from d1]at q |-;obtain⟨c1,_⟩:=M X f 3 _ rfl;go_simp;exact q.out _ X rfl Ae f
     .refine wp_load_mid 133 _ rfl (w.1.size+1) 0 rfl [Zg r,C4 L,Zg N,C4 H,Zg G,Zg F] _ (M X f).range underlying133 rfl Yr ?_;exact q.out _ X rfl Ae f
     .go_simp;exact q.out _ X rfl Ae f
     .have d4:=C ⟨4,ed⟩ Yu Yp;rw[show x 4=Yx w.1.size 4 from d4]at q |-;refine wp_load_mid 30 _ rfl w.1.size 4 rfl (C7 u.J u.F u.G u.E a.Q u.B a.W a.L u.ps a.P a.K u.ls a.O) _ (b X f) underlying30 rfl Yr ?_;exact q.out _ X rfl Ae f
     .have d3:=C ⟨3,ed⟩ Yu Yp;have d5:=C ⟨5,ed⟩ Yu Yp;rw[show x 3=ct #[Zg r,C4 L,Zg N,C4 H,Zg G,Zg F]from d3,show x 5=ct (C8 u.J u.F u.G u.E a.Q u.B a.W a.L u.ps a.P a.K u.ls a.O) from d5]at q |-;go_simp;refine(MI r N G F L H u.J u.F u.G u.E a.L a.K a.W (eh u.ps) a.P (eh u.ls) a.O (HK X f).1 zC Yv zE.1).ai ?_;rintro e U ⟨s,rfl,_,y⟩;exact q.out _ U ⟨s,rfl⟩ y (f.ag (y.ai f.size))
     have d0:=C ⟨0,ed⟩ Yu Yp;have d2:=C ⟨2,ed⟩ Yu Yp;have d6:=C ⟨6,ed⟩ Yu Yp;obtain⟨s,e6⟩:=d6;rw[show x 0=ct (ei A) from d0,show x 2=C4 H from d2,e6]at q |-;go_simp;refine(XP H s (Z.A f) Yo).ai ?_;rintro e U ⟨d,j,rfl,z,y⟩;exact q.out _ U ⟨d,j,rfl,z.ai f.size⟩ y (f.ag (y.ai f.size))
    intro x X f hT K q;simp only[AY,Act.put,Zq,Zp,Zo];obtain⟨d,j,e1,z⟩:=hT 7 Yq
   case' neg=>
    have q2:(r==2)=bq:=D2 k2;clear k2;by_cases k3:r=3
    .have q3:(r==3)=bg:=D2 k3;clear k3;obtain⟨y1,_⟩:=M W Ae 3 _ rfl;go_wp2_with (refine wpList_load_mid rfl 34 _ rfl w.1.size 0 rfl A _ (I W Ae).range underlying34 rfl G1 ?_);refine(Tx H Z Yo).ai ?_;rintro o w1 ⟨d,j,rfl,z,y⟩;obtain⟨Q,D,hD⟩:=Yw (zA d j w1 y z),Ag (dL d j);rw[<-hD]at Q;rw[<-hD];clear hD z y HK I b M zA zB y1;go_wp2_with (refine wpList_store_mid rfl 166 _ _ rfl J.1.size 0 (ei D) rfl rfl Q.2.1 (by rw[A0,Q.1.1];kernel_rfl) (all_oneCell_toArray Q.1.2) ?_);go_meet;exact Q.2.2
    have q3:(r==3)=bq:=D2 k3;clear k3;by_cases k4:r=4
    case' pos=>
     have q4:(r==4)=bg:=D2 k4
     clear k4;go_upto_region 10 with fail;refine DO [37,38,39,40,41,42,43,44] 8 rfl _ rfl Yr Yr Yr Yr Yr Yq Yr (λ_ X=>Zz W X) (λi X v=>match i with
      |0=>v=ct (ei A)
      |1=>v=ct #[Zg r,C4 L,Zg N,C4 H,Zg G,Zg F]
      |2=>v=Yx w.1.size 4
      |3=>v=ct (C8 u.J u.F u.G u.E a.Q u.B a.W a.L u.ps a.P a.K u.ls a.O)
      |4=>∃s,v=C4 s
      |5=>v=Yx (w.1.size+1) 5
      |6=>v=Zg F
      |7=>∃d j,v=ct (ei (dL d j))/\RV W.1.size X j
      |_=>True) (λX Y=>Zz X Y) ?_ Ae.drew ?_ ?_
     .intro i X Y v S hT;rcases i with _|_|_|_|_|_|_|_|_<;>first
       |exact hT
       |exact JG hT S
       |exact JH hT S
     .intro i o k x X hi ho hk f C K q;rcases(show i=0\/i=1\/i=2\/i=3\/i=4\/i=5\/i=6\/i=7 by omega)with rfl|rfl|rfl|rfl|rfl|rfl|rfl|rfl<;>cases ho<;>simp only[AY,Act.put,Zq,Zp,Zo]at q |-
      .refine wp_load_mid 34 _ rfl w.1.size 0 rfl A _ (I X f).range underlying34 rfl G1 ?_;exact q.out _ X rfl Ae f
      .refine wp_load_mid 133 _ rfl (w.1.size+1) 0 rfl [Zg r,C4 L,Zg N,C4 H,Zg G,Zg F] _ (M X f).range underlying133 rfl Yr ?_;exact q.out _ X rfl Ae f
      .go_simp;exact q.out _ X rfl Ae f
      .have d2:=C ⟨2,ed⟩ Yu Yp;rw[show x 2=Yx w.1.size 4 from d2]at q |-;refine wp_load_mid 30 _ rfl w.1.size 4 rfl (C7 u.J u.F u.G u.E a.Q u.B a.W a.L u.ps a.P a.K u.ls a.O) _ (b X f) underlying30 rfl Yr ?_;exact q.out _ X rfl Ae f
      .have d1:=C ⟨1,ed⟩ Yu Yp;have d3:=C ⟨3,ed⟩ Yu Yp;rw[show x 1=ct #[Zg r,C4 L,Zg N,C4 H,Zg G,Zg F]from d1,show x 3=ct (C8 u.J u.F u.G u.E a.Q u.B a.W a.L u.ps a.P a.K u.ls a.O) from d3]at q |-;go_simp;refine(MI r N G F L H u.J u.F u.G u.E a.L a.K a.W (eh u.ps) a.P (eh u.ls) a.O (HK X f).1 zC Yv zE.1).ai ?_;rintro e U ⟨s,rfl,_,y⟩;exact q.out _ U ⟨s,rfl⟩ y (f.ag (y.ai f.size))
      .go_simp;exact q.out _ X rfl Ae f
      .have d5:=C ⟨5,ed⟩ Yu Yp;rw[show x 5=Yx (w.1.size+1) 5 from d5]at q |-;obtain⟨c1,_⟩:=M X f 5 _ rfl;go_simp;exact q.out _ X rfl Ae f
      have d0:=C ⟨0,ed⟩ Yu Yp;have d4:=C ⟨4,ed⟩ Yu Yp;have d6:=C ⟨6,ed⟩ Yu Yp;obtain⟨s,e4⟩:=d4;rw[show x 0=ct (ei A) from d0,e4,show x 6=Zg F from d6]at q |-;go_simp;refine(Tz s F (Z.A f)).ai ?_;rintro e U ⟨d,j,rfl,z,y⟩;exact q.out _ U ⟨d,j,rfl,z.ai f.size⟩ y (f.ag (y.ai f.size))
     intro x X f hT K q;simp only[AY,Act.put,Zq,Zp,Zo];obtain⟨d,j,e1,z⟩:=hT 7 Yq
    case' neg=>
     have q4:(r==4)=bq:=D2 k4;clear k4;by_cases k5:r=5
     case' pos=>
      have q5:(r==5)=bg:=D2 k5
      clear k5;go_upto_region 12 with fail;refine DO [47,48,49,50,51,52] 6 rfl _ rfl Yr Yr Yr Yr Yr Yq Yr (λ_ X=>Zz W X) (λi X v=>match i with
       |0=>v=ct (ei A)
       |1=>v=ct #[Zg r,C4 L,Zg N,C4 H,Zg G,Zg F]
       |2=>v=Yx w.1.size 4
       |3=>v=ct (C8 u.J u.F u.G u.E a.Q u.B a.W a.L u.ps a.P a.K u.ls a.O)
       |4=>∃n,v=Zg n
       |5=>∃d j,v=ct (ei (dL d j))/\RV W.1.size X j
       |_=>True) (λX Y=>Zz X Y) ?_ Ae.drew ?_ ?_
      .intro i X Y v S hT;rcases i with _|_|_|_|_|_|_<;>first
        |exact hT
        |exact JG hT S
        |exact JH hT S
      .intro i o k x X hi ho hk f C K q;rcases(show i=0\/i=1\/i=2\/i=3\/i=4\/i=5 by omega)with rfl|rfl|rfl|rfl|rfl|rfl<;>cases ho<;>simp only[AY,Act.put,Zq,Zp,Zo]at q |-
       .refine wp_load_mid 34 _ rfl w.1.size 0 rfl A _ (I X f).range underlying34 rfl G1 ?_;exact q.out _ X rfl Ae f
       .refine wp_load_mid 133 _ rfl (w.1.size+1) 0 rfl [Zg r,C4 L,Zg N,C4 H,Zg G,Zg F] _ (M X f).range underlying133 rfl Yr ?_;exact q.out _ X rfl Ae f
       .go_simp;exact q.out _ X rfl Ae f
       .have d2:=C ⟨2,ed⟩ Yu Yp;rw[show x 2=Yx w.1.size 4 from d2]at q |-;refine wp_load_mid 30 _ rfl w.1.size 4 rfl (C7 u.J u.F u.G u.E a.Q u.B a.W a.L u.ps a.P a.K u.ls a.O) _ (b X f) underlying30 rfl Yr ?_;exact q.out _ X rfl Ae f
       .have d1:=C ⟨1,ed⟩ Yu Yp;have d3:=C ⟨3,ed⟩ Yu Yp;rw[show x 1=ct #[Zg r,C4 L,Zg N,C4 H,Zg G,Zg F]from d1,show x 3=ct (C8 u.J u.F u.G u.E a.Q u.B a.W a.L u.ps a.P a.K u.ls a.O) from d3]at q |-;go_simp;refine(Qp r N G F L H u.J u.F u.G u.E a.Q a.L (eh u.B) a.W (eh u.ps) a.P a.O (HK X f).2 zC Yv zE.2).ai ?_;rintro e U ⟨n,rfl,y⟩;exact q.out _ U ⟨n,rfl⟩ y (f.ag (y.ai f.size))
       have d0:=C ⟨0,ed⟩ Yu Yp;have d4:=C ⟨4,ed⟩ Yu Yp;obtain⟨n,e4⟩:=d4;rw[show x 0=ct (ei A) from d0,e4]at q |-;go_simp;refine(Qo n (Z.A f)).ai ?_;rintro e U ⟨d,j,rfl,z,y⟩;exact q.out _ U ⟨d,j,rfl,z.ai f.size⟩ y (f.ag (y.ai f.size))
      intro x X f hT K q;simp only[AY,Act.put,Zq,Zp,Zo];obtain⟨d,j,e1,z⟩:=hT 5 Yq
     case' neg=>
      have q5:(r==5)=bq:=D2 k5;clear k5;by_cases k6:r=6
      .have q6:(r==6)=bg:=D2 k6;clear k6;obtain⟨y1,_⟩:=M W Ae 5 _ rfl;go_wp2_with (refine wpList_load_mid rfl 34 _ rfl w.1.size 0 rfl A _ (I W Ae).range underlying34 rfl G1 ?_);refine(XQ F Z).ai ?_;rintro o w1 ⟨d,j,rfl,z,y⟩;obtain⟨Q,D,hD⟩:=Yw (zA d j w1 y z),Ag (dL d j);rw[<-hD]at Q;rw[<-hD];clear hD z y HK I b M zA zB y1;go_wp2_with (refine wpList_store_mid rfl 166 _ _ rfl J.1.size 0 (ei D) rfl rfl Q.2.1 (by rw[A0,Q.1.1];kernel_rfl) (all_oneCell_toArray Q.1.2) ?_);go_meet;exact Q.2.2
      have q6:(r==6)=bq:=D2 k6;clear k6;by_cases k8:r=8
      .have q8:(r==8)=bg:=D2 k8;clear k8;go_wp2_with (refine wpList_load_mid rfl 34 _ rfl w.1.size 0 rfl A _ (I W Ae).range underlying34 rfl G1 ?_);refine(VD Z).ai ?_;rintro o w1 ⟨j,rfl,z,y⟩;have R:Hid (eh j=17/\∀u∈j,u.oneCell'=bg):=z.len;have T:=Yw (OL zB (Tn.of (V:=[]) y) Yu (show w.1.size<=w.1.size+1+1 by omega) Yu (Dl O.o) bW z hm);clear z y HK I b M zA zB;go_wp2_with (refine wpList_store_mid rfl 34 _ _ rfl (w.1.size+1+1) 0 (ei j) rfl rfl T.1 (by rw[A0,R.1];kernel_rfl) (all_oneCell_toArray R.2) ?_);exact bodyPost_ret (AM results69 _ _ (w.1.size+1+1) j _ rfl (Aa.range T.2.1) underlying34 rfl (by rw[R.1];kernel_rfl)) rfl T.2.2
      have q8:(r==8)=bq:=D2 k8;clear k8;by_cases k9:r=9
      .have q9:(r==9)=bg:=D2 k9;clear k9;obtain⟨y1,_⟩:=M W Ae 4 _ rfl;have zV:G.tmod 6=G%6:=Int.tmod_eq_emod_of_nonneg zC;go_wp2_with (refine wpList_load_mid rfl 34 _ rfl w.1.size 0 rfl A _ (I W Ae).range underlying34 rfl G1 ?_);refine(XT (G%6) Z Yv).ai ?_;rintro o w1 ⟨j,rfl,z,y⟩;have R:Hid (eh j=17/\∀u∈j,u.oneCell'=bg):=z.len;have T:=Yw (OL zB (Tn.of (V:=[]) y) Yu (show w.1.size<=w.1.size+1+1 by omega) Yu (Dl O.o) bW z hm);clear z y HK I b M zA zB;go_wp2_with (refine wpList_store_mid rfl 34 _ _ rfl (w.1.size+1+1) 0 (ei j) rfl rfl T.1 (by rw[A0,R.1];kernel_rfl) (all_oneCell_toArray R.2) ?_);exact bodyPost_ret (AM results69 _ _ (w.1.size+1+1) j _ rfl (Aa.range T.2.1) underlying34 rfl (by rw[R.1];kernel_rfl)) rfl T.2.2
      have q9:(r==9)=bq:=D2 k9;clear k9;by_cases k10:r=10
      .have zS:(r==10)=bg:=D2 k10;clear k10;obtain⟨y1,_⟩:=M W Ae 4 _ rfl;go_wp2_with (refine wpList_load_mid rfl 34 _ rfl w.1.size 0 rfl A _ (I W Ae).range underlying34 rfl G1 ?_);refine(VE G Z).ai ?_;rintro o w1 ⟨c,j,n,E,rfl,ho,z,y⟩;have R:Hid (eh j=17/\∀u∈j,u.oneCell'=bg):=z.len;have T:=Yw (OL zB (Tn.of (V:=[]) y) Yu (show w.1.size<=w.1.size+1+1 by omega) Yu (Dl O.o) bW z hm);obtain⟨a0,a1,a2,a3,a4,a5,a6,a7,a8,a9,zF,zG,zH,zI,zJ,zK,zM,rfl⟩:=IY z.len.1;have zT:∀X:Zh,(Instr.field 176 (ct (ei (JS c [a0,a1,a2,a3,a4,a5,a6,a7,a8,a9,zF,zG,zH,zI,zJ,zK,zM] n E))) 1).run prog X=.ok (ct #[a0,a1,a2,a3,a4,a5,a6,a7,a8,a9,zF,zG,zH,zI,zJ,zK,zM]) X:=λ_=>Yr;clear z y HK I b M zA zB;go_wp2_with (refine wpList_store_mid rfl 34 _ _ rfl (w.1.size+1+1) 0 (ei [a0,a1,a2,a3,a4,a5,a6,a7,a8,a9,zF,zG,zH,zI,zJ,zK,zM]) rfl rfl T.1 (by rw[A0,R.1];kernel_rfl) (all_oneCell_toArray R.2) ?_);exact bodyPost_ret (AM results69 _ _ (w.1.size+1+1) [a0,a1,a2,a3,a4,a5,a6,a7,a8,a9,zF,zG,zH,zI,zJ,zK,zM] _ rfl (Aa.range T.2.1) underlying34 rfl (by rw[R.1];kernel_rfl)) rfl T.2.2
      have zS:(r==10)=bq:=D2 k10;clear k10;go_wp2_with fail;go_meet;exact⟨_,AU,zN,RZ _ _,Tn.of Ae⟩
  all_goals
   obtain⟨Q,D,hD⟩:=Yw (zA d j X f z),Ag (dL d j);rw[<-hD]at Q e1;rw[e1];clear hD z hT;refine wp_store_mid 166 _ _ rfl J.1.size 0 (ei D) rfl rfl Q.2.1 (by rw[A0,Q.1.1];kernel_rfl) (all_oneCell_toArray Q.1.2) ?_;refine q.out _ _ ?_;clear q K;go_wp2_with fail;go_meet;exact Q.2.2
 revert wc;intro wc hcut;have⟨d,j,b,z,M⟩:=hcut.o;clear hcut;have q:Hid (eh j=17/\∀u∈j,u.oneCell'=bg):=z.len;have⟨K,_,_,_,_,Q⟩:=Aef b q.1;have T:=Yw (OL HX.2.2.1 M L0 (show w.1.size<=w.1.size+1+1 by omega) L0 (Dl O.o) O.1 (z.ai (Zx)) hm);have y:=Yw (Aej HX.2.2.1 M L0 (show w.1.size<=w.1.size+1+1 by omega) L0 (Dl O.o) O.1 HV);have I:Hid (wc.rangeAt w.1.size 0 A):=(Aa.same HX.1 (M.block _ (Dl O.o) L0)).range;have t:Hid (wc.rangeAt J.1.size 1 j):=Q;clear Q b z M HX O;by_cases hc:d.c=0
 .have z:(d.c==0)=bg:=D2 hc
  clear hc;go_wp2_with (first
   |refine wpList_load_mid rfl 34 _ rfl J.1.size 1 rfl j _ t underlying34 rfl (by rw[q.1];kernel_rfl) ?_
   |refine wpList_store_mid rfl 34 _ _ rfl (w.1.size+1+1) 0 (ei j) rfl rfl T.1 (by rw[A0,q.1];kernel_rfl) (all_oneCell_toArray q.2) ?_)
  exact bodyPost_ret (AM results69 _ _ (w.1.size+1+1) j _ rfl (Aa.range T.2.1) underlying34 rfl (by rw[q.1];kernel_rfl)) rfl T.2.2
 have z:(d.c==0)=bq:=D2 hc
 clear hc;go_wp2_with (first
  |refine wpList_load_mid rfl 34 _ rfl w.1.size 0 rfl A _ I underlying34 rfl G1 ?_
  |refine wpList_store_mid rfl 34 _ _ rfl (w.1.size+1+1) 0 (ei A) rfl rfl y.1 (by rw[A0,P.o];kernel_rfl) (all_oneCell_toArray zO) ?_)
 exact bodyPost_ret (AM results69 _ _ (w.1.size+1+1) A _ rfl (Aa.range y.2.1) underlying34 rfl G1) rfl y.2.2
structure FO (w wr:Zh) (b:Nat) (a:Zk) (n c:Nat) (p k:Int) (q:Nat) (vs:Zj):Prop where
 rd:∃p',AB wr b a n c p'/\p<=p'/\p'<=p+k
 gr:ep w wr (an b)
 z:Aa wr w.1.size AU
 x:Aa wr q vs
 rv:CS (fun g=>g<=w.1.size\/g=q) wr vs
 lt:w.1.size<q
theorem CS.less{p a:Nat->Prop}{b:Zj}(h:CS p w b)(f:∀g,a g->p g):CS a w b:=by obtain⟨u,e,h⟩:=h;exact⟨u,e,λV c d=>h V c (λg c=>f g (d g c))⟩
theorem FO.co{d:Zj}(h:FO w wr b a n c p k q d)(f:ep wr X (an b))(j:b<w.1.size):Aa X q d/\CS (λg=>g<=w.1.size\/g=q) X d/\Aa X w.1.size AU/\ep w X (an b):=by
 have m:=h.lt;refine⟨?_,h.rv.S (Tn.grown (V:=[b]) f Yu) Yt,h.z.au f Yv,Ai h.gr f⟩;have⟨v,l,e⟩:∃v l,d=v::l:=by
  have:=h.rv.zero.len.1;cases d with
  |nil=>simp at this
  |cons v l=>exact⟨v,l,rfl⟩
 have i:=h.x;rw[e]at i |-;exact i.au f Yv
theorem FO.go{k':Int}{e:Zj}(h:FO w wr b a n c p k q e)(j:∃d,AB X b a n c d/\p<=d/\d<=p+k')(i:ep wr X (an b))(g:b<w.1.size):FO w X b a n c p k' q e:=
 have f:=h.co i g
 ⟨j,f.2.2.2,f.2.2.1,f.1,f.2.1,h.lt⟩
theorem FO.more{e:Zj}(h:FO w wr b a n c p k q e)(t:k<=d):FO w wr b a n c p d q e:=by obtain⟨⟨r,f,g,s⟩,i,j,l,m,o⟩:=h;exact⟨⟨r,f,g,Yv⟩,i,j,l,m,o⟩
theorem FO.fin{d:Zj}(h:FO w wr b a n c p k q d)(m:eh d=17)(r:b<w.1.size):
 wr.there w.1.size 0 (ei d).size/\Aa (wr.setCells w.1.size 0 (ei d).toList) w.1.size d/\CS (λg=>g<w.1.size) (wr.setCells w.1.size 0 (ei d).toList) d/\(∃j,AB (wr.setCells w.1.size 0 (ei d).toList) b a n c j/\p<=j/\j<=p+k)/\ep w (wr.setCells w.1.size 0 (ei d).toList) (an b):=by
 have f:=AD w.1.size d 0 wr;have e:=h.gr;refine⟨?_,h.z.aw d (by rw[m];rfl),CS.less (h.rv.S f Yu) (λg e=> dp Yv),?_,⟨f.os.ag e.os,f.tape.ag e.tape,f.output.ag e.output,Zm e.size f.size,λi l o=>(f.block i (Zr l e.size) Yt).ag (e.block i l o)⟩⟩
 .rw[show (ei d).size=17 from by rw[A0];exact m];exact h.z.there
 obtain⟨j,l,o⟩:=h.rd;exact⟨j,l.S f Yt Yt,o⟩
theorem RV.new{m n0:Nat}{b c:Zh}(h:RV m b vs)(l:n0<m)(a:Zz b c):CS (λg=>g<=n0\/g=b.1.size) c vs:=by
 obtain⟨u,k,h⟩:=h;refine⟨u,k,λV d j hT=>h (V.filter (·<=n0)) d (λg d=>by have:=(B6.1 d).2;simp at this;omega) ⟨hT.os.ag a.os,hT.tape.ag a.tape,hT.output.ag a.output,Zm a.size hT.size,λi d f=>(hT.block i (Zr d a.size) (λf=> ?_)).ag (a.block i d)⟩⟩;rcases j i f with e|e
 .exact gA
 omega
theorem FO.put{h:Zj}(z:∃f,AB X b a n c f/\p<=f/\f<=p+k)(e:ep w X (an b))(r:Aa X w.1.size AU)(o:Aa X q h)(x:eh h=17)(m:CS (λg=>g<=w.1.size\/g=q) X vs)(y:w.1.size<q)(A:b<w.1.size):
 (eh vs=17/\∀u∈vs,u.oneCell'=bg)/\X.there q 0 (ei vs).size/\FO w (X.setCells q 0 (ei vs).toList) b a n c p k q vs:=by
 have j:=m.zero.len;have d:=AD q vs 0 X;refine⟨j,?_,?_,?_,?_,?_,m.S d Yu,y⟩
 .rw[show (ei vs).size=eh h from by rw[A0,x];exact j.1];exact o.there
 .obtain⟨f,t,v⟩:=z;exact⟨f,t.S d Yt Yt,v⟩
 .exact⟨d.os.ag e.os,d.tape.ag e.tape,d.output.ag e.output,Zm e.size d.size,λi l s=>(d.block i (Zr l e.size) Yt).ag (e.block i l s)⟩
 .exact Aa.same r (d.block _ r.lt Yt)
 exact o.aw vs Yv
theorem Ro{b:Nat}{a:Zk}{n c:Nat}{p:Int}{w:Zh}(h:AB w b a n c p)(hp:0<=p)(zN:p<=700000):
 D8 40 #[.pointer (an ⟨b,0,ba⟩)] w λe d=>∃vs,e=C5 (ct (ei vs))/\CS (λg=>g<w.1.size) d vs/\GF w d b a n c p 40000:=by
 obtain⟨F,W,d⟩:=h.lt,D6 w Xo 34;have f:=(Ax d).1;have r:=(Ax d).2.1;have L:Hid (Aa W w.1.size AU):=(Ax (l:=AU) d).2.2;have G:Hid (AB W b a n c p/\ep w W (an b)):=⟨h.A f,Af _ f⟩;have U:Hid (W.1.size=w.1.size+1):=r;have m:Hid _:=d;clear d f r h;delta D8;go_in;go_upto_region 2 with fail;rw[<-m.o];clear m;go_wp2_with fail;refine(AE 6 G.1 hp D9 D9 D9).ai ?_;rintro e w1 ⟨r1,rfl,zZ,yA,D,d⟩;have f:Hid (AB w1 b a n c (p+1)/\ep W w1 (an b)):=gH;clear D d;go_upto_if 9 with fail;go_cut [3,9] (λm _ H=>Hid (∃(l d:Int),m=Zg l/\AB H b a n c d/\p<=d/\d<=p+2/\ep W H (an b)))
 case first=>
  by_cases q1:r1=0
  .have zF:(r1==0)=bg:=E8;clear q1;go_wp2_with fail;refine(AE 60 f.1 D9 D9 D9 D9).ai ?_;rintro e w2 ⟨r2,rfl,yB,yC,Q,m⟩;have HM:Hid (AB w2 b a n c (p+1+1)/\ep W w2 (an b)):=⟨Q,Ai f.2 m⟩;clear Q m f G L;go_wp2;go_meet;exact⟨_,p+1+1,rfl,HM.1,by omega,by omega,HM.2⟩
  have zF:(r1==0)=bq:=E8;clear q1;go_wp2_with fail;go_meet;exact⟨_,p+1,rfl,f.1,by omega,by omega,f.2⟩
 revert wc;intro w3 hcut;obtain⟨l,p1,rfl,s,zO,zI,r⟩:=hcut.o;clear hcut f;have m:Hid (ep w w3 (an b)/\ep W w3 (an b)):=⟨Ai G.2 r,r⟩;clear r;go_wp2_with fail;refine(Oq s D9 D9).ai ?_;rintro e T ⟨wd,rfl,_,t,r⟩;have f:Hid (ep w T (an b)/\ep W T (an b)/\AB T b a n c (p1+1)):=⟨Ai m.1 r,Ai m.2 r,t⟩;clear s t r m;go_wp2_with fail;refine Calls.mono (Qu wd l ba ba 0 0 [] [] T (dp rfl) (dp rfl) (λ_=>⟨rfl,rfl⟩) (λ_=>⟨rfl,rfl⟩) ⟨by simp,by simp,by simp,by simp⟩) ?_;rintro e E ⟨cd,vs,rfl,B,s⟩;have J:Hid (eh vs=17/\∀u∈vs,u.oneCell'=bg):=B.len;obtain⟨y,W5,r⟩:=s.size,D6 E Xo 34;have m:=(Ax r).1;have N:=(Ax r).2.1;have M:Aa W5 E.1.size AU:=(Ax (l:=AU) r).2.2;have C:w.1.size<E.1.size:=by have:=f.2.1.size;have:=U.o;omega
 have t:Hid _:=FO.put (w:=w) (X:=W5) (p:=p) (k:=4) (q:=E.1.size) (vs:=vs) ⟨p1+1,(f.2.2.A s).A m,by omega,by omega⟩ (Ai f.1 (Af _ (s.ag (m.ai y)))) (Aa.A (Aa.A (L.au f.2.1 D9) s) m) M rfl (B.new (by have:=f.2.1.size;have:=U.o;omega) m) C F;have⟨W6,A⟩:=Ag (W5.setCells E.1.size 0 (ei vs).toList);rw[<-A]at t;have z:Hid _:=r;have I:Hid _:=A;clear B s y m N M f r A G L;have f:Hid (FO w W6 b a n c p 4 E.1.size vs/\eh vs=17):=gD;go_upto_region 5 with(refine wpList_store_mid rfl 34 _ _ rfl E.1.size 0 (ei vs) rfl rfl (by rw[<-z.o];exact t.2.1) (by rw[A0,J.1];kernel_rfl) (all_oneCell_toArray J.2) ?_);rw[<-z.o,<-I.o];clear z I t J;have⟨q,m⟩:=Ag E.1.size;rw[<-m]at f C |-;clear m;have⟨p6,s,zP,zJ⟩:=f.1.rd;go_wp2_with fail;refine(AE 14 s D9 D9 D9 D9).ai ?_;rintro e w7 ⟨n7,rfl,zU,zV,y,m⟩;go_wp2_with fail;refine(AE 6 y D9 D9 D9 D9).ai ?_;rintro e w8 ⟨n8,rfl,zX,zY,z,r⟩;have A:Hid (FO w w8 b a n c p 6 q vs/\eh vs=17):=⟨f.1.go ⟨p6+1+1,z,by omega,by omega⟩ (Ai m r) F,f.2⟩;clear s y z m r f;go_upto_if 25 with fail;go_cut [6,25] (λm _ H=>Hid (∃k:Nat,m=Zg k/\k<=25/\H=w8))
 case first=>
  by_cases q8:n8=0
  .have zG:(n8==0)=bg:=E8;clear q8;go_wp2;go_meet;exact⟨n7.toNat+12,by go_num,by omega,rfl⟩
  have zG:(n8==0)=bq:=E8;clear q8;go_wp2_with fail;go_meet;exact⟨n7.toNat,by congr 1;omega,by omega,rfl⟩
 revert wc;intro w9 hcut;obtain⟨k9,rfl,zC,rfl⟩:=hcut.o;clear hcut;go_wp2;go_loopw [6] (λm wr=>∃(k:Nat) (f:Zj),m=Zg k/\k<=25/\Hid (FO w wr b a n c p (6+1200 *(25 -k)) q f/\eh f=17)) (λm _=>(intOf m).toNat)
 case atStart=>exact⟨k9,vs,rfl,zC,A.1.more D9,A.2⟩
 clear A;obtain⟨k,f,rfl,hk,r⟩:=hrel;have⟨S,m,zM,zH⟩:=r.1.rd;by_cases hk0:0<k
 case neg=>
  obtain rfl:k=0:=D9
  have m:Hid _:=r.1.fin r.2 F;have s:Hid (∀u∈f,u.oneCell'=bg):=r.1.rv.zero.len.2;go_wp2_with (first
   |refine wpList_load_mid rfl 34 _ rfl q 0 rfl f _ r.1.x.range underlying34 rfl (by rw[r.2];kernel_rfl) ?_
   |refine wpList_store_mid rfl 34 _ _ rfl w.1.size 0 (ei f) rfl rfl m.1 (by rw[A0,r.2];kernel_rfl) (all_oneCell_toArray s) ?_)
  exact bodyPost_ret (AM results40 _ _ w.1.size f _ rfl (Aa.range m.2.1) underlying34 rfl (by rw[r.2];kernel_rfl)) rfl ⟨f,rfl,m.2.2.1,⟨m.2.2.2.1.imp (λd h=>⟨h.1,h.2.1,by have:=h.2.2;simp at this;omega⟩),m.2.2.2.2⟩⟩
 obtain⟨L,rfl⟩:∃L,k=L+1:=⟨k -1,by omega⟩;have zK:bx ((0:Int)<((L+1:Nat):Int))=bg:=E7;have zA:Hid (AB wr b a n c S):=m;have zS:q<wr.1.size:=by
  obtain⟨v,l,e⟩:∃v l,f=v::l:=by
   have:=r.2;cases f with
   |nil=>simp at this
   |cons v l=>exact⟨v,l,rfl⟩
  have hx:=r.1.x;rw[e]at hx;exact hx.lt
 have A:Hid (∀X,ep wr X (an b)->Aa X q f/\CS (λg=>g<=w.1.size\/g=q) X f/\Aa X w.1.size AU/\ep w X (an b)):=λX s=>by have D:=r.1.co s F;exact⟨D.1,D.2.1,D.2.2.1,D.2.2.2⟩
 clear m;go_upto_region 10 with fail;refine DO [32,33,34,35] 4 rfl _ rfl Ez Ez Ez Ez Ez H9 Ez (λj X=>(∃d,AB X b a n c d/\S<=d/\d<=S+300 *j)/\ep wr X (an b)) (λi X v=>match i with
  |0=>v=ct (ei f)
  |1=>v=.pointer (an ⟨b,0,ba⟩)
  |2=>∃M J H I G N,v=ct #[Zg M,C4 J,Zg H,C4 I,Zg G,Zg N]/\J.size<=16/\0<=H/\H<8/\I.size<=1/\0<=G/\G<40
  |3=>∃z,v=ct (ei z)/\CS (λg=>g<=w.1.size\/g=q) X z
  |_=>True) (λX Y=>ep X Y (an b)) ?_ ⟨⟨S,zA.drew,by omega,by omega⟩,⟨rfl,rfl,rfl,Zx,λ_ _ _=>rfl⟩⟩ ?_ ?_
 .intro i X Y v zB hT;rcases i with _|_|_|_|_
  .exact hT
  .exact hT
  .exact hT
  .obtain⟨z,D,Q⟩:=hT;exact⟨z,D,Q.S (Tn.grown (V:=[b]) zB E7) E8⟩
  exact hT
 .intro i o j x X hi ho hj y hd K s;rcases(show i=0\/i=1\/i=2\/i=3 by omega)with rfl|rfl|rfl|rfl<;>cases ho<;>simp only[AY,Act.put,Zq,Zp,Zo]at s |-
  .refine wp_load_mid 34 _ rfl q 0 rfl f _ (A X y.2).1.range underlying34 rfl (by rw[r.2];kernel_rfl) ?_;exact s.out _ X rfl (AO _ _) ⟨y.1.imp (λd h=>⟨h.1,h.2.1,by omega⟩),y.2⟩
  .go_simp;exact s.out _ X rfl (AO _ _) ⟨y.1.imp (λd h=>⟨h.1,h.2.1,by omega⟩),y.2⟩
  .have d1:=hd ⟨1,ed⟩ E7 F1;rw[show x 1=.pointer (an ⟨b,0,ba⟩)from d1]at s |-;obtain⟨⟨d,B,O,P⟩,m⟩:=y;go_simp;refine(Aaj B D9 D9).ai ?_;rintro e X' ⟨M,J,H,I,G,N,rfl,a1,a2,a3,a4,a5,a6,⟨p2,zE,h3,h4⟩,Z⟩;exact s.out _ X' ⟨M,J,H,I,G,N,rfl,a1,a2,a3,a4,a5,a6⟩ Z ⟨⟨p2,zE,by omega,by omega⟩,Ai m Z⟩
  have d0:=hd ⟨0,ed⟩ E7 F1;obtain⟨M,J,H,I,G,N,e2,a1,a2,a3,a4,a5,a6⟩:=hd ⟨2,ed⟩ E7 F1;rw[show x 0=ct (ei f) from d0,e2]at s |-;obtain⟨⟨d,B,O,P⟩,m⟩:=y;have zT:=m.size;go_simp;refine(XU M H G N J I (λg R=>by omega) (A X m).2.1 a1 a2 a3 a4 a5 a6).ai ?_;rintro e X' ⟨z,rfl,R,g⟩;exact s.out _ X' ⟨z,rfl,R⟩ (Af _ g) ⟨⟨d,B.A g,by omega,by omega⟩,Ai m (Af _ g)⟩
 intro x X y hT K s;simp only[AY,Act.put,Zq,Zp,Zo];obtain⟨z,e3,R⟩:=hT 3 H9;obtain⟨⟨d,B,O,P⟩,m⟩:=y;have t:Hid _:=FO.put (p:=p) (k:=6+1200 *(25 -(L:Int))) ⟨d,B,by omega,by omega⟩ (A X m).2.2.2 (A X m).2.2.1 (A X m).1 r.2 R C F;rw[e3];clear hT R B O P m A r;refine wp_store_mid 34 _ _ rfl q 0 (ei z) rfl rfl t.2.1 (by rw[A0,t.1.1];kernel_rfl) (all_oneCell_toArray t.1.2) ?_;refine s.out _ _ ?_;clear s K;go_wp2;exact⟨⟨L,z,by go_num,by omega,t.2.2,t.1.1⟩,by simp[intOf]⟩
