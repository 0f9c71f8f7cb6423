import Derived.Test.YtfehblndlffcmaaGreatDoorX17
import Derived.Test.YtfehblndlffcmaaGreatDoorX18
import Derived.Deep.CutBlock
set_option maxRecDepth 100000
set_option maxHeartbeats 16000000
open Option renaming some->an,none->ba
open Bool renaming true->bg,false->bq
open Go.RowKit renaming Below->bs
open Go.Obj renaming cells->ca
open Go.Value renaming slice->cr,agg->ct,ownBlock->ej
open Or renaming inl->dp,inr->eb
open Go.Ground renaming data->ed
open List renaming length->eh,toArray->ei
open Go.World renaming cell?->ek,frozen?->el,ownsRow->eo,grownBy->ep,setCell->ev
open Go renaming maxLen->ew
namespace Go.Proofs.YtfehblndlffcmaaGreatDoor
open ChangeShapes WideShapes ChangeAt RowKit _root_.Go.Proofs.Tryz List World Value
variable{w X Y:Zh}{c a b g n m q size:Nat}{d f l e j u K:Int}{v:Vd}{o:An}{k:Db}{s:Zi}{r:Rs}{i:Da}{V:List Nat}{U T P L Q M:Value}{z:Kd×Value}
def RB(b:Nat)(ads:List (Zk))(zs:List (Kd×Value))(g:Nat):Prop:=
 g=b\/(∃p,an p∈ads/\p.block=g)\/∃z∈zs,z.1.D≠[]/\∃ad rc,z.2=cr (an ad) (eh z.1.D) rc/\ad.block=g
structure RR (w:Zh) (V:List Nat) (a:Va) (b:Nat) (zs:List (Kd×Value)) (v:Vd):Prop where
 Q:a.Q=an ⟨b,0,ba⟩
 zk:zs.map (·.1)=v.B
 z:Bs w b 0 zs
 s:Ab w w.1.size a.Y v.ss
 p:AS w w.1.size a.L v.ps
 l:AR w w.1.size a.K v.ls
 q:Ab w w.1.size a.Z v.H
 m:Ab w w.1.size a.g v.ms
 cs:a.Y=ba->eh v.ss=0/\a.sc=0
 cp:a.L=ba->a.P=0
 cl:a.K=ba->a.O=0
 cq:Dy a.Z (eh v.H) a.y
 cm:Dy a.g (eh v.ms) a.j
 lt:∀g,RB b [a.Y,a.L,a.K,a.Z,a.g] zs g->g<w.1.size
 ap:∀g,RB b [a.Y,a.L,a.K,a.Z,a.g] zs g->g∉V
theorem XS{c:List (Kd×Value)}(h:Bs w b 0 c)(d:z∈c):∃a e,z.2=C3 (an a) (eh z.1.D) e/\Ab w w.1.size (an a) z.1.D:=by have⟨i,a⟩:=A9 d;exact(h i z a).2
theorem RR.S{m:Zh}{U:List Nat}{a:Va}{j:List (Kd×Value)}(h:RR w V a b j v)(d:Tn U w m)(o:∀g∈U,g∈V\/w.1.size<=g):RR m V a b j v:=by
 have c:∀g,RB b [a.Y,a.L,a.K,a.Z,a.g] j g->g∉U:=λg i k=>by
  rcases o g k with f|f
  .exact h.ap g i f
  have:=h.lt g i;omega
 refine⟨h.Q,h.zk,Ll h.z (d.block b (h.lt b (dp rfl)) (c b (dp rfl))) (λz k=> ?_),h.s.S d (λp e _=>c _ (eb (dp ⟨p,by simp[e],rfl⟩))),h.p.S d (λp e _=>c _ (eb (dp ⟨p,by simp[e],rfl⟩))),h.l.S d (λp e _=>c _ (eb (dp ⟨p,by simp[e],rfl⟩))),h.q.S d (λp e _=>c _ (eb (dp ⟨p,by simp[e],rfl⟩))),h.m.S d (λp e _=>c _ (eb (dp ⟨p,by simp[e],rfl⟩))),h.cs,h.cp,h.cl,h.cq,h.cm,λg i=>Zr (h.lt g i) d.size,h.ap⟩;have⟨i,l,f,n⟩:=XS h.z k;refine⟨i,l,f,?_⟩;by_cases hr:z.1.D=[]
 .exact dp hr
 exact n.S d (λp e _=>by cases e;exact c _ (eb (eb ⟨z,k,hr,i,l,f,rfl⟩)))
theorem RR.clear{V':List Nat}{a:Va}{e:List (Kd×Value)}(h:RR w V a b e v)(f:∀g∈V',g∈V\/w.1.size<=g):RR w V' a b e v:=
 ⟨h.Q,h.zk,h.z,h.s,h.p,h.l,h.q,h.m,h.cs,h.cp,h.cl,h.cq,h.cm,h.lt,λg d i=>by
  rcases f g i with c|c
  .exact h.ap g d c
  have:=h.lt g d;omega⟩
def Vz(a:Va)(b tc:Nat)(qa ma:Zk)(qc mc:Nat):Va:=⟨a.Y,a.sc,a.V,a.T,an ⟨b,0,ba⟩,tc,a.L,a.P,a.K,a.O,qa,qc,ma,mc⟩
theorem RR.unit{y:Zh}{a:Va}{f:List (Kd×Value)}{u r:UR}(h:RR w V a b f (Bg v u))(Q:∀g∈V,g<w.1.size){e:Ending}{Y U:Zl}{S:C9}{X:Db}{T:Da}{wd J k i W H ro:Int}{G F E N:Nat}{m:List (Kd×Value)}{t s M:Zk}(c:LV w y e wd J k i P L S X T W K H ro Y U b a.Z a.g f r n G m t s M F E N):RR y V (Vz a n G t s F E) n m (Bg v (u.and r)):=by
 have j:=h.S (V:=V) (Tn.of (V:=[]) c.low) Yu;have d:∀{x:Zk},Dn b a.Z a.g w.1.size x->∀p,x=an p->RB b [a.Y,a.L,a.K,a.Z,a.g] f p.block\/w.1.size<=p.block:=λl p e=>by
  rcases l p e with h|⟨q,h,o⟩|⟨q,h,o⟩|h
  .exact dp (dp h)
  .exact dp (eb (dp ⟨q,by simp[h],o.symm⟩))
  .exact dp (eb (dp ⟨q,by simp[h],o.symm⟩))
  exact eb h
 have hold:∀g,RB n [a.Y,a.L,a.K,t,s] m g->(RB b [a.Y,a.L,a.K,a.Z,a.g] f g\/w.1.size<=g)/\g<y.1.size:=λg l=>by
  rcases l with rfl|⟨p,C,rfl⟩|⟨z,R,I,A,Z,O,rfl⟩
  .exact⟨d c.fb ⟨g,0,ba⟩ rfl,c.lt⟩
  .simp only[Cf,not_mem_nil,or_false]at C;rcases C with e|e|e|e|e
   .have:RB b [a.Y,a.L,a.K,a.Z,a.g] f p.block:=eb (dp ⟨p,by simp[<-e],rfl⟩);exact⟨dp this,j.lt _ this⟩
   .have:RB b [a.Y,a.L,a.K,a.Z,a.g] f p.block:=eb (dp ⟨p,by simp[<-e],rfl⟩);exact⟨dp this,j.lt _ this⟩
   .have:RB b [a.Y,a.L,a.K,a.Z,a.g] f p.block:=eb (dp ⟨p,by simp[<-e],rfl⟩);exact⟨dp this,j.lt _ this⟩
   .exact⟨d c.fq p e.symm,c.lq p e.symm⟩
   exact⟨d c.fm p e.symm,c.lm p e.symm⟩
  have:RB b [a.Y,a.L,a.K,a.Z,a.g] f A.block:=eb (eb ⟨z,c.sub z R,I,A,Z,O,rfl⟩);exact⟨dp this,j.lt _ this⟩
 refine⟨rfl,c.zk,c.z,j.s,j.p,j.l,c.q,c.m,h.cs,h.cp,h.cl,c.cq,c.cm,λg l=>(hold g l).2,λg l D=> ?_⟩;rcases(hold g l).1 with B|B
 .exact h.ap g B D
 have:=Q g D;omega
theorem RR.kj{a:Va}{r:List (Kd×Value)}(h:RR w V a b r v){ta:Zk}{tc:Nat}(d:Ak w q (C3 ta (eh v.C) tc) v.C)(f:eh v.ss<=1048576)(g:eh v.C<=1048576)(i:eh v.H<=100000000)(j:eh v.ms<=100000000)(l:eh v.B<=600)(m:eh v.ps<=100)(n:eh v.ls<=200)(o:∀k∈v.B,eh k.D<=30):Ky w {a with V:=ta,T:=tc} v:=by
 have⟨_,_,e,hT⟩:=d.row;cases e;have p:Br w w.1.size (an ⟨b,0,ba⟩) v.B:=by have:=h.z.dt (h.lt b (dp rfl));rw[h.zk]at this;exact this
 refine⟨⟨h.s,hT,⟨by rw[h.Q];exact p,h.p,h.l⟩,h.q,h.m⟩,h.cs,d.cap.2,h.cq,h.cm,λA e=> ?_,h.cp,h.cl,f,g,i,j,l,m,n,o⟩;have c:a.Q=an A:=e;rw[h.Q]at c;cases c;rw[<-h.zk];exact EY.cp h.z.some
theorem TA(v:Vd):Bg v (Hc v)=v:=by cases v;simp[Bg,Hc]
theorem RR.start{t:Nat}{S:D4}{f:Zj}(h:AF w t S U T P L Q M f v)(d:∀u∈S::U::Q::M::T::P::L::f,∃g n c,u=Yz g n c):∃a b j,S=C3 a.Y (eh v.ss) a.sc/\U=C3 a.V (eh v.C) a.T/\T=C3 a.Q (eh v.B) a.W/\P=C3 a.L (eh v.ps) a.P/\L=C3 a.K (eh v.ls) a.O/\Q=C3 a.Z (eh v.H) a.y/\M=C3 a.g (eh v.ms) a.j/\RR w (Al U).toList a b j v:=by
 obtain⟨r,n1,sc,rfl⟩:=d S Yu;obtain⟨R,n2,uc,rfl⟩:=d U Yu;obtain⟨H,n3,qc,rfl⟩:=d Q Yu;obtain⟨F,n4,mc,rfl⟩:=d M Yu;obtain⟨s,n5,O,rfl⟩:=d T Yu;obtain⟨G,n6,N,rfl⟩:=d P Yu;obtain⟨E,n7,K,rfl⟩:=d L Yu;obtain⟨⟨_,_,o,hs⟩,⟨_,_,W,_⟩,⟨_,_,X,hq⟩,⟨_,_,Y,hm⟩,⟨_,_,Z⟩,_,_,a⟩:=h.s.row,h.u.row,h.q.row,h.m.row,Au h.st.ak,Au h.st.pins;have⟨_,_,b⟩:=Au h.st.ax;cases o;cases W;cases X;cases Y;cases Z;cases a;cases b;have V:eh (v.B.zip f)=eh v.B:=by rw[length_zip,h.st.len];omega
 have B:=h.st.ak;rw[<-V]at B;have C:∀z∈v.B.zip f,z.2∈f/\∃g c,z.2=C6 g z.1.D c/\Ab w w.1.size (an ⟨g,0,ba⟩) z.1.D:=λz m=>by have⟨i,hi⟩:=A9 m;have⟨l,j⟩:=getElem?_zip_eq_some.1 hi;have D:=h.st.D i _ _ l j;obtain⟨g,n,c,k⟩:=d z.2 (by simp[Zs j]);refine⟨Zs j,g,c,?_⟩;rw[k]at D |-;have⟨_,_,e⟩:=Au D;cases e;exact⟨rfl,Ab.own D⟩
 have x:∀g,RB s [an ⟨r,0,ba⟩,an ⟨G,0,ba⟩,an ⟨E,0,ba⟩,an ⟨H,0,ba⟩,an ⟨F,0,ba⟩] (v.B.zip f) g->g=r\/g∈BP (C6 s v.B O) (C6 G v.ps N) (C6 E v.ls K) f\/g=H\/g=F:=λg k=>by
  unfold BP;simp only[Bw,By,mem_filterMap];rcases k with rfl|⟨p,J,rfl⟩|⟨z,m,_,ad,rc,o,rfl⟩
  .exact eb (dp (dp rfl))
  .simp only[Cf,not_mem_nil,or_false,Option.some.injEq]at J;rcases J with rfl|rfl|rfl|rfl|rfl
   .exact dp rfl
   .exact eb (dp (eb (dp rfl)))
   .exact eb (dp (eb (eb (dp rfl))))
   .exact gA
   exact gA
  obtain⟨l,g,c,j,_⟩:=C z m;rw[j]at o;cases o;exact eb (dp (eb (eb (eb ⟨z.2,l,by rw[j];rfl⟩))))
 have y:=h.db;have A:=h.nd;unfold Df at y A;refine⟨⟨an ⟨r,0,ba⟩,sc,an ⟨R,0,ba⟩,uc,an ⟨s,0,ba⟩,O,an ⟨G,0,ba⟩,N,an ⟨E,0,ba⟩,K,an ⟨H,0,ba⟩,qc,an ⟨F,0,ba⟩,mc⟩,s,v.B.zip f,rfl,rfl,rfl,rfl,rfl,rfl,rfl,⟨rfl,map_fst_zip (by rw[h.st.len];exact Zx),Bs.own B (λz m=> ?_),hs,AS.own h.st.pins,AR.own h.st.ax,hq,hm,(λe=>by cases e),(λe=>by cases e),(λe=>by cases e),h.q.cap,h.m.cap,λg k=> ?_,λg k I=> ?_⟩⟩
 .obtain⟨_,g,c,j,q⟩:=C z m;exact gA
 .refine y g ?_;simp only[Bw,By];rcases x g k with rfl|l|rfl|rfl
  .exact dp (dp rfl)
  .exact gA
  .exact eb (eb (dp rfl))
  exact eb (eb (eb rfl))
 have u:g=R:=by simpa [Al]using I
 subst u;have⟨l,_,q⟩:=nodup_append.1 A;have I:=(nodup_append.1 l).2.2;simp only[Bw,By]at q I;rcases x g k with e|h5|e|e
 .exact I r rfl g rfl e.symm
 .exact gG
 .exact q g (eb rfl) g (eb (dp I4)) rfl
 exact q g (eb rfl) g (eb (eb I4)) rfl
theorem MG(X:Zh)(i a j:Nat)(U:D4)(b:Zl)(t:Zi)(h:Ak X i U b)(o:∀g,Al U=an g->g≠a)(s:a<X.1.size)(gx:i<=X.1.size)(v:eh b<=100000000):
 ∃c d Y,(Builtin.append_ #[23,23] 23 #[U,Yz X.1.size 1 1]).run prog (X.alloc (ca #[C4 t] 9))=.ok (C3 c (eh b+1) d) Y/\Y.1[a]?=X.1[a]? /\Tn (a::(Al U).toList) X (ev Y (Zd a j) (C3 c (eh b+1) d))/\Ak (ev Y (Zd a j) (C3 c (eh b+1) d)) i (C3 c (eh b+1) d) (b++[t])/\∀g,Al (C3 c (eh b+1) d)=an g->Al U=an g\/X.1.size<=g:=by
 have m:bs X.1.size X (X.alloc (ca #[C4 t] 9)):=gB;obtain⟨w,Y,r,n,p,q⟩:=KK (h.A m) ⟨X.1.size,0,ba⟩ 1 t gA v Yt 23;obtain⟨c,d,rfl,_⟩:=n.row;rw[Am,length_cons,length_nil,Ay]at r n q;have l:∀g,Al (C3 c (eh b+1) d)=an g->Al U=an g\/X.1.size<=g:=λg e=>by
  rcases q with f|f
  .rw[f]at e;exact dp e
  rw[f]at e;have:=A8 e;simp at this;exact eb Yv
 have u:Y.1[a]?=X.1[a]?:=(p.block a Yt (λe=>o a e.symm rfl)).ag (m.block a s);refine⟨c,d,Y,r,u,((Tn.of (V:=[]) m).ai Yu).ag (((Du p).ai gA).ag (Tn.set _ _ _ _ Yu)),n.S (AX Y a j _) (λg e k=> ?_),l⟩;simp at k;subst k;rcases l g e with f|f
 .exact o g f rfl
 omega
def SwP(v:Vd)(w:Zh)(e:Ending)(w':Zh):Prop:=∃o cs,Fl v o/\e=.returned (ct (ei cs))/\SwA v o w.1.size w' cs/\Zz w w'
theorem MH(a:Aa X (w.1.size+1) (z20 0)/\Zz w X):X.there (w.1.size+1) 0 20/\(ei (z20 1)).all (·.oneCell')=bg/\Aa (X.setCells (w.1.size+1) 0 (z20 1)) (w.1.size+1) (z20 1)/\Zz w (X.setCells (w.1.size+1) 0 (z20 1)):=
 ⟨a.1.there,by simp[z20,oneCell'],a.1.aw _ rfl,a.2.ag ((AD _ _ _ _).A a.2.size Yu)⟩
