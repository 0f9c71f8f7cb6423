import Derived.Test.YtfmeclmjdpbacaaGreatDoorX18
import Derived.Test.YtfmeclmjdpbacaaGreatDoorX12
import Derived.Test.YtfmeclmjdpbacaaGreatDoorX13
set_option maxRecDepth 100000
set_option maxHeartbeats 16000000
open Option renaming some->ai,none->an
open Bool renaming true->ay,false->ba
open Go.RowKit renaming Below->bg
open Go.Obj renaming cells->bs
open Go.Value renaming slice->bx,agg->ca,pointer->ea,bool->ec
open Or renaming inl->cr,inr->ct
open List renaming length->ed
open Go.World renaming cell?->eh,frozen?->ei,setCell->el
open Go renaming maxLen->eo
namespace Go.Proofs.YtfmeclmjdpbacaaGreatDoor
open ChangeShapes WideShapes ChangeAt RowKit _root_.Go.Proofs.Tryz List World Value
variable{i a c f g d e v t k l p:Int}{h:Zl}{b n B m N base:Nat}{j q:C6}{x s:Zi}{u:C7}{r:Rs}{X w' V:Zh}{T S P L Q M O:Value}
section
theorem CP.dq{h:C5}{c:Zi}{b:Zl}{f g:C5}(l:CP i a h c b f d)(m:CP i a h c b g e):f=g/\d=e:=by
 rcases l with⟨k,n,o,_,rfl,rfl⟩|⟨j,_,_,rfl,rfl⟩<;>rcases m with⟨k',hk',hs',_,rfl,rfl⟩|⟨hno',_,_,rfl,rfl⟩
 .exact gA
 .exact absurd ⟨k,n,o⟩ hno'
 .exact absurd ⟨k',hk',hs'⟩ j
 exact gA
theorem GC.dq{j:Int}{n:C5}{B:C6}{f:Zi}{e:Zl}(r:(n.map (·.sum)).Nodup){x:Int}{a b v w:Zi}(t:GC j g d n B f e c a b)(u:GC j g d n B f e x v w):c=x/\a=v/\b=w:=by
 have D:∀k∈n,k.sum=Bm f e j->AH k.Q k.C j≠AH f e j->∀p s,¬CP j d n f e p s:=by
  intro k l m y p s z;rcases z with⟨A,h,i,q,_⟩|⟨o,_⟩
  .have:=ET r l h (m.ag i.symm);subst this;exact y q
  exact o ⟨k,l,m⟩
 rcases t with⟨E,rfl,rfl,rfl⟩|⟨C,t⟩<;>rcases u with⟨hn',rfl,rfl,rfl⟩|⟨hall',u⟩
 .exact gA
 .exact gA
 .exact gA
 rcases t with⟨k,l,m,y,rfl,rfl,rfl⟩|⟨o,_,rfl,rfl,rfl⟩|⟨⟨p,s,z⟩,_,rfl,rfl,rfl⟩<;>rcases u with⟨A,h,i,q,rfl,rfl,rfl⟩|⟨hno',_,rfl,rfl,rfl⟩|⟨⟨ks2,b2,hy'⟩,_,rfl,rfl,rfl⟩
 .have:=ET r l h (m.ag i.symm);subst this;exact gA
 .exact absurd ⟨k,l,m⟩ hno'
 .exact gG
 .exact absurd ⟨A,h,i⟩ o
 .exact gA
 .exact gA
 .exact gG
 .exact gA
 exact gA
theorem GC.not{u:Int}{m:C5}{t:C6}{g:Zi}{f:Zl}(w:(m.map (·.sum)).Nodup){a b:Zi}(y:GC u e d m t g f c a b){B:C5}{x:Int}(o:CP u d m g f B x)(n:∀r∈f,As m r)(F:ed t<200)(E:e<1000000000):False:=by
 rcases y with⟨A,_⟩|⟨_,⟨k,p,q,z,_⟩|⟨j,h,_⟩|⟨_,h,_⟩⟩
 .exact A n
 .rcases o with⟨s,i,l,v,_⟩|⟨j,_⟩
  .have:=ET w p i (q.ag l.symm);subst this;exact z v
  exact j ⟨k,p,q⟩
 .rcases o with⟨s,i,l,_⟩|⟨_,C,D,_⟩
  .exact j ⟨s,i,l⟩
  omega
 omega
theorem Gh.dq{m:C5}{r:C6}{q:Int}{t:Zi}{i:Zi}(x:(m.map (·.sum)).Nodup){a b n o:Zi}(d:Gh v k g f m u r q s t l i h c a b)(e:Gh v k g f m u r q s t l i h p n o):c=p/\a=n/\b=o:=by
 rcases d with⟨y,d⟩|⟨rfl,rfl,d⟩<;>rcases e with⟨hk',e⟩|⟨rfl,rfl,e⟩
 .exact d.dq x e
 .omega
 .omega
 refine⟨?_,rfl,rfl⟩;rcases d with⟨j,⟨d,rfl⟩|⟨d,w,z,rfl⟩⟩|⟨j,d,rfl⟩|⟨j,⟨d,rfl⟩|⟨d,w,rfl⟩⟩|⟨j,d,rfl⟩|⟨j,d,rfl⟩|⟨j,⟨d,rfl⟩|⟨d,w,rfl⟩⟩<;>rcases e with⟨k2,⟨e,rfl⟩|⟨e,x2,y2,rfl⟩⟩|⟨k2,e,rfl⟩|⟨k2,⟨e,rfl⟩|⟨e,x2,rfl⟩⟩|⟨k2,e,rfl⟩|⟨k2,e,rfl⟩|⟨k2,⟨e,rfl⟩|⟨e,x2,rfl⟩⟩<;>first|rfl|omega|exact absurd e d|exact absurd d e
theorem Db.dq{n b:Int}{i:C5}{l:C7}{h:Int}{k:Zi}{d:Zi}{c:Zl}{m:Rs}(o:Db n f b a i l j h s k g d c r)(p:Db n f b a i l j h s k g d c m):r=m:=by rcases o with⟨e,_,_,_,t,u,q,rfl⟩|⟨e,_,_,rfl⟩|⟨e,_,rfl⟩|⟨e,_,_,_,rfl⟩|⟨e,_,rfl⟩|⟨e,_,rfl⟩|⟨e,_,_,rfl⟩<;>rcases p with⟨k2,_,_,_,ks2,b2,y2,rfl⟩|⟨k2,_,_,rfl⟩|⟨k2,_,rfl⟩|⟨k2,_,_,_,rfl⟩|⟨k2,_,rfl⟩|⟨k2,_,rfl⟩|⟨k2,_,_,rfl⟩<;>first|rfl|omega|(obtain⟨rfl,rfl⟩:=q.dq y2;rfl)
theorem Gh.not{m:Int}{o:C5}{t:Zi}{n:Int}{i:Zi}(w:(o.map (·.sum)).Nodup){a b:Zi}(d:Gh v m f e o u q p s t n i h c a b)(x:Db v m f e o u q p s t n i h r):False:=by rcases x with⟨k,l,z,y,B,C,A,_⟩|⟨k,j,g,_⟩|⟨k,j,_⟩|⟨k,j,g,D,_⟩|⟨k,j,_⟩|⟨k,j,_⟩|⟨k,j,g,_⟩<;>rcases d with⟨k1,d⟩|⟨_,_,⟨k1,⟨d,_⟩|⟨d,x1,z1,_⟩⟩|⟨k1,d,_⟩|⟨k1,⟨d,_⟩|⟨d,x1,_⟩⟩|⟨k1,d,_⟩|⟨k1,d,_⟩|⟨k1,⟨d,_⟩|⟨d,x1,_⟩⟩⟩<;>first|omega|exact absurd j d|exact absurd x1 g|exact d.not w A l z y|(rcases g with g|g;exact x1 g;omega)
end
theorem TL(w:Zh)(a:Nat):Bc w a Zb Zb Zb [] [] [] []:=
 ⟨rfl,⟨rfl,cr ⟨rfl,rfl⟩⟩,λi k r b=>(by simp at b),⟨rfl,cr ⟨rfl,rfl⟩⟩,⟨rfl,cr ⟨rfl,rfl⟩⟩,nodup_nil⟩
structure An where
 code:Int
 wd:Int
 G:Int
 H:Int
 E:Int
 le:Int
 sm:Zi
 a:Zi
 b:Zi
 B:List Kd
 ps:List Pd
 ls:List Ld
def r0:Rs:=⟨⟨#[]⟩,0,0,0,0,[],[],[]⟩
def IS(wd:Int)(r:Rs)(x:Zi)(r':Rs):Prop:=(AI x wd).ok=ay/\Db wd r.G r.H r.E r.B r.ps r.ls (AI x wd).k (AI x wd).sum (AI x wd).name (AI x wd).n (AI x wd).t (AI x wd).ss r'
def Bad(wd:Int)(r:Rs)(x:Zi):Prop:=(AI x wd).ok=ba\/∃c a b,Gh wd r.G r.H r.E r.B r.ps r.ls (AI x wd).k (AI x wd).sum (AI x wd).name (AI x wd).n (AI x wd).t (AI x wd).ss c a b
def Cc(wd:Int):Rs->Zl->Rs->Prop
 |r,[],r'=>r'=r
 |r,x::xs,r'=>∃r1,IS wd r x r1/\Cc wd r1 xs r'
def DP(wd:Int)(xs:Zl)(n:Nat):Prop:=∃k r x,n=k+1/\xs[k]?=ai x/\Cc wd r0 (xs.take k) r/\Bad wd r x
def Rs.ok(wd:Int)(r:Rs):Prop:=Gk wd r.G r.H r.E r.B r.ps r.ls
theorem Cc.snoc{a b:Rs}(d:IS c a x b):∀{xs:Zl} {r:Rs},Cc c r xs a->Cc c r (xs++[x]) b
 |[],r,h=>by obtain rfl:a=r:=h;exact⟨b,d,rfl⟩
 |y::ys,r,h=>by obtain⟨g,e,f⟩:=h;exact⟨g,e,Cc.snoc d f⟩
theorem IS.dq{a b:Rs}(h:IS c r x a)(k:IS c r x b):a=b:=h.2.dq k.2
theorem IS.ok{b:Rs}(h:IS a r x b)(c:r.ok a):b.ok a:=Gk.step c (GJ h.1).1 h.2
theorem IS.not{g:Rs}(h:IS d r x g)(f:r.ok d):¬Bad d r x:=by
 rintro(e|⟨c,a,b,e⟩)
 .rw[h.1]at e;cases e
 exact e.not f.bn.nd h.2
theorem Cc.dq:∀{xs:Zl} {r a b:Rs},Cc e r xs a->Cc e r xs b->a=b
 |[],r,a,b,h,k=>by have c:=h;have d:=k;rw[c,d]
 |x::xs,r,a,b,h,k=>by obtain⟨i,c,d⟩:=h;obtain⟨j,f,g⟩:=k;obtain rfl:=c.dq f;exact Cc.dq d g
theorem Cc.ok:∀{xs:Zl} {r r':Rs},Cc a r xs r'->r.ok a->r'.ok a
 |[],r,r',h,hr=>by obtain rfl:r'=r:=h;exact hr
 |x::xs,r,r',h,hr=>by obtain⟨d,b,c⟩:=h;exact Cc.ok c (b.ok hr)
theorem Cc.at{wd:Int}:∀{xs:Zl} {r r':Rs},Cc wd r xs r'->∀{k:Nat} {x:Zi},xs[k]?=ai x->∃a b,Cc wd r (xs.take k) a/\IS wd a x b
 |[],r,r',h,k,x,hx=>by simp at hx
 |y::ys,r,r',h,k,x,hx=>by
  obtain⟨d,c,e⟩:=h;cases k with
  |zero=>simp at hx;subst hx;exact⟨r,d,rfl,c⟩
  |succ k=>obtain⟨a,b,f,g⟩:=Cc.at e (k:=k) (x:=x) gA;exact⟨a,b,⟨d,c,f⟩,g⟩
theorem Fq(b:1<=a)(c:a<=8):r0.ok a:=Gk.zero b c
theorem DP.not{c:Zl}(d:1<=a)(i:a<=8)(h:DP a c n):¬Cc a r0 c r:=λj=>by obtain⟨k,m,x,rfl,l,b,e⟩:=h;have⟨o,p,f,g⟩:=j.at l;obtain rfl:=b.dq f;exact g.not (b.ok (Fq d i)) e
theorem DP.le{d:Zl}(e:1<=a)(l:a<=8)(h:DP a d n)(k:DP a d m):m<=n:=by
 obtain⟨i,u,x,rfl,r,b,f⟩:=h;obtain⟨j,v,y,rfl,s,o,t⟩:=k;rcases B0 i j with q|p
 .obtain⟨w,z,c,g⟩:=o.at (k:=i) (x:=x) gA;rw[take_take,Nat.min_eq_left Yv]at c;obtain rfl:=b.dq c;exact absurd f (g.not (b.ok (Fq e l)))
 omega
theorem DP.dq{d:Zl}(b:1<=a)(c:a<=8)(h:DP a d n)(k:DP a d m):n=m:=Nat.le_antisymm (k.le b c h) (h.le b c k)
def QE(wd:Int)(xs:Zl)(x:An):Prop:=
 (¬((1<=wd/\wd<=8)/\ed xs<=4000)/\x=⟨1,0,0,0,0,0,⟨#[]⟩,⟨#[]⟩,⟨#[]⟩,[],[],[]⟩)\/
 (((1<=wd/\wd<=8)/\ed xs<=4000)/\(
   (∃n:Nat,DP wd xs n/\x=⟨7,0,0,0,0,n,⟨#[]⟩,⟨#[]⟩,⟨#[]⟩,[],[],[]⟩)\/
   (∃r,Cc wd r0 xs r/\x=⟨0,wd,r.G,r.H,r.E,0,⟨#[]⟩,⟨#[]⟩,⟨#[]⟩,r.B,r.ps,r.ls⟩)))
theorem QE.dq{b:Int}{c:Zl}{x y:An}(h:QE b c x)(k:QE b c y):x=y:=by
 rcases h with⟨d,rfl⟩|⟨a,h⟩<;>rcases k with⟨n2,rfl⟩|⟨g2,k⟩
 .rfl
 .omega
 .omega
 rcases h with⟨n,h,rfl⟩|⟨r,h,rfl⟩<;>rcases k with⟨m,k,rfl⟩|⟨q,k,rfl⟩
 .obtain rfl:=h.dq a.1.1 a.1.2 k;rfl
 .exact absurd k (h.not a.1.1 a.1.2)
 .exact absurd h (k.not a.1.1 a.1.2)
 obtain rfl:=h.dq k;rfl
structure Vd where
 wd:Int
 J:Int
 ss:Zl
 D:Zl
 P:Int
 G:Int
 H:Int
 E:Int
 B:List Kd
 ps:List Pd
 ls:List Ld
 I:Int
 F:Zl
 ms:Zl
 L:Int
 K:Int
 ro:Int
structure Va where
 y:Zk
 sc:Nat
 ta:Zk
 d:Nat
 W:Zk
 j:Nat
 Z:Zk
 g:Nat
 X:Zk
 e:Nat
 qa:Zk
 qc:Nat
 i:Zk
 mc:Nat
abbrev Xr(v:Vd)(a:Va):Array Value:=#[.int .i64 v.wd,.int .i64 v.J,bx a.y (ed v.ss) a.sc,bx a.ta (ed v.D) a.d,.int .i64 v.P,.int .i64 v.G,.int .i64 v.H,.int .i64 v.E,bx a.W (ed v.B) a.j,bx a.Z (ed v.ps) a.g,bx a.X (ed v.ls) a.e,.int .i64 v.I,bx a.qa (ed v.F) a.qc,bx a.i (ed v.ms) a.mc,.int .i64 v.L,.int .i64 v.K,.int .i64 v.ro]
abbrev Xq(v:Vd)(a:Va):List Value:=[.int .i64 v.wd,.int .i64 v.J,bx a.y (ed v.ss) a.sc,bx a.ta (ed v.D) a.d,.int .i64 v.P,.int .i64 v.G,.int .i64 v.H,.int .i64 v.E,bx a.W (ed v.B) a.j,bx a.Z (ed v.ps) a.g,bx a.X (ed v.ls) a.e,.int .i64 v.I,bx a.qa (ed v.F) a.qc,bx a.i (ed v.ms) a.mc,.int .i64 v.L,.int .i64 v.K,.int .i64 v.ro]
abbrev Xk(v:Vd)(a:Option Addr)(b:Nat)(c:Option Addr)(d:Nat)(e:Option Addr)(f:Nat)(g:Option Addr)(h:Nat)(i:Option Addr)(j:Nat)(k:Option Addr)(l:Nat)(m:Option Addr)(n:Nat):List Value:=[.int .i64 v.wd,.int .i64 v.J,bx a (ed v.ss) b,bx c (ed v.D) d,.int .i64 v.P,.int .i64 v.G,.int .i64 v.H,.int .i64 v.E,bx e (ed v.B) f,bx g (ed v.ps) h,bx i (ed v.ls) j,.int .i64 v.I,bx k (ed v.F) l,bx m (ed v.ms) n,.int .i64 v.L,.int .i64 v.K,.int .i64 v.ro]
abbrev Xj(v:Vd)(a:Option Addr)(b:Nat)(c:Option Addr)(d:Nat)(e:Option Addr)(f:Nat)(g:Option Addr)(h:Nat)(i:Option Addr)(j:Nat)(k:Option Addr)(l:Nat)(m:Option Addr)(n:Nat):Array Value:=#[.int .i64 v.wd,.int .i64 v.J,bx a (ed v.ss) b,bx c (ed v.D) d,.int .i64 v.P,.int .i64 v.G,.int .i64 v.H,.int .i64 v.E,bx e (ed v.B) f,bx g (ed v.ps) h,bx i (ed v.ls) j,.int .i64 v.I,bx k (ed v.F) l,bx m (ed v.ms) n,.int .i64 v.L,.int .i64 v.K,.int .i64 v.ro]
structure Bg (w:Zh) (B:Nat) (a:Va) (v:Vd):Prop where
 s:Ad w B a.y v.ss
 t:Ad w B a.ta v.D
 st:BV w B a.W a.Z a.X v.B v.ps v.ls
 q:Ad w B a.qa v.F
 m:Ad w B a.i v.ms
theorem Bg.ak{w c:Zh}{a:Va}{v:Vd}(h:Bg w B a v)(b:bg B w c):Bg c B a v:=
 ⟨h.s.A b,h.t.A b,h.st.ak b,h.q.A b,h.m.A b⟩
theorem Bg.mono{w:Zh}{B':Nat}{a:Va}{v:Vd}(h:Bg w B a v)(b:B<=B'):Bg w B' a v:=
 ⟨h.s.ah b,h.t.ah b,h.st.ah b,h.q.ah b,h.m.ah b⟩
abbrev Bg.ah:=@Bg.mono
theorem Bg.U{w b:Zh}{a:Va}{v:Vd}(h:Bg w w.1.size a v)(c:Zz w b):Bg b b.1.size a v:=(h.ak c).ah c.size
structure TM (a:Va) (v:Vd):Prop where
 s:a.y=an->ed v.ss=0/\a.sc=0
 t:a.ta=an->ed v.D=0/\a.d=0
 m:ed v.ms<=a.mc
structure DM (v:Vd):Prop where
 s:ed v.ss<=1048576
 t:ed v.D<=1048576
 ss:∀s∈v.ss,s.size<=1048576
 D:∀s∈v.D,s.size<=1048576
 st:Agb v.B v.ps v.ls
 r:GM v.F v.ms
structure Bo (v:Vd) (r:Rs):Prop where
 wd:1<=v.wd/\v.wd<=8
 J:0<=v.J/\v.J<=1000000
 log:BR v.ss v.D=ay
 run:Cc v.wd r0 (v.ss++v.D) r
 same:(v.wd=v.P/\r.G=v.G/\r.H=v.H/\r.E=v.E)/\r.B=v.B/\r.ps=v.ps/\r.ls=v.ls
 round:Bb v.wd v.E v.I v.L v.K v.ro v.F v.ms
def BY(v:Vd):Prop:=∃r,Bo v r
theorem Gr{a b:Zl}(h:BR a b=ay):ed (a++b)<=4000:=by unfold BR at h;simp at h;rw[Am];exact h.1
theorem KL{w:Zh}{j k l m n o p q r s a c d e f g i:Dg}(h:Aa w b [j,k,l,m,n,o,p,q,r,s,a,c,d,e,f,g,i]):eh w (Zd b 0)=ai j/\eh w (Zd b 1)=ai k/\eh w (Zd b 2)=ai l/\eh w (Zd b 3)=ai m/\eh w (Zd b 4)=ai n/\eh w (Zd b 5)=ai o/\eh w (Zd b 6)=ai p/\eh w (Zd b 7)=ai q/\eh w (Zd b 8)=ai r/\eh w (Zd b 9)=ai s/\eh w (Zd b 10)=ai a/\eh w (Zd b 11)=ai c/\eh w (Zd b 12)=ai d/\eh w (Zd b 13)=ai e/\eh w (Zd b 14)=ai f/\eh w (Zd b 15)=ai g/\eh w (Zd b 16)=ai i:=
 ⟨(h 0 _ rfl).1,(h 1 _ rfl).1,(h 2 _ rfl).1,(h 3 _ rfl).1,(h 4 _ rfl).1,(h 5 _ rfl).1,(h 6 _ rfl).1,(h 7 _ rfl).1,(h 8 _ rfl).1,(h 9 _ rfl).1,(h 10 _ rfl).1,(h 11 _ rfl).1,(h 12 _ rfl).1,(h 13 _ rfl).1,(h 14 _ rfl).1,(h 15 _ rfl).1,(h 16 _ rfl).1⟩
structure L1 (RA:Nat->Zh->Zj->Prop) (w X:Zh) (A sc:Zj) (pS L:Nat):Prop where
 cn:bg w.1.size w X
 bA:Aa X w.1.size A
 bS:Aa X pS sc
 rS:RA L X sc
 l0:w.1.size<L
 l1:pS<L
 le:L<=X.1.size
structure L2 (OX:Nat->Nat->Zh->Zj->Prop) (X:Zh) (xc:Zj) (L pX N:Nat):Prop where
 bX:Aa X pX xc
 oX:OX L N X xc
 l1:N<=pX
 le:pX<X.1.size
structure L3 (P:Nat->Nat->Zh->Zj->Prop) (X:Zh) (gc:Zj) (lo pG N:Nat):Prop where
 bG:Aa X pG gc
 oG:P lo N X gc
 l1:N<=pG
 le:pG<X.1.size
theorem L3.stays{P:Nat->Nat->Zh->Zj->Prop}(k:∀(b N:Nat) (X a:Zh) (d:Zj),P b N X d->X.1.size<=a.1.size->(∀q,b<=q->q<N->a.1[q]?=X.1[q]?)->P b N a d){a:Zh}{e:Zj}{c:Nat}(h:L3 P X e b c N)(l:B<=b)(i:B<=c)(g:X.1.size<=a.1.size)(f:∀q,B<=q->q<X.1.size->a.1[q]?=X.1[q]?):L3 P a e b c N:=
 ⟨Aa.same h.bG (f _ i h.le),k _ _ _ _ _ h.oG g (λq j j=>f q Yv (by have:=h.l1;have:=h.le;omega)),h.l1,Zr h.le g⟩
theorem boxed{cs z:Zj}{T:TypeId}(b:ed cs=ed z):Aa ((X.alloc (bs z.toArray T)).setCells X.1.size 0 cs) X.1.size cs/\Zz X ((X.alloc (bs z.toArray T)).setCells X.1.size 0 cs)/\((X.alloc (bs z.toArray T)).setCells X.1.size 0 cs).1.size=X.1.size+1:=by have a:=Aa.new X z T;have c:=Ap X.1.size cs 0 (X.alloc (bs z.toArray T));refine⟨a.ax cs b,(Zy).ag (c.A Yu Yu),?_⟩;rw[FQ];simp
def DC(S U T P L Q M:Value)(rs:Zj):List Nat:=((Aj S).toList++(Aj U).toList)++(BJ T P L rs++((Aj Q).toList++(Aj M).toList))
structure Ay (w:Zh) (base:Nat) (S U T P L Q M:Value) (rs:Zj) (v:Vd):Prop where
 s:Ah w base S v.ss
 u:Ah w base U v.D
 st:Bc w base T P L rs v.B v.ps v.ls
 q:Ah w base Q v.F
 m:Ah w base M v.ms
 nd:(DC S U T P L Q M rs).Nodup
theorem Ay.lo{w:Zh}{U:Dg}{c:Zj}{v:Vd}(h:Ay w b S U T P L Q M c v):∀g∈DC S U T P L Q M c,b<=g:=by
 intro g a;unfold DC at a;simp only[A5,A6]at a;rcases a with(a|a)|a|a|a
 .exact(h.s.S a).1
 .exact(h.u.S a).1
 .exact h.st.lo g a
 .exact(h.q.S a).1
 exact(h.m.S a).1
theorem Ay.dj{w:Zh}{U:Dg}{c:Zj}{v:Vd}(h:Ay w b S U T P L Q M c v):∀g∈DC S U T P L Q M c,g<w.1.size:=by
 intro g a;unfold DC at a;simp only[A5,A6]at a;rcases a with(a|a)|a|a|a
 .exact(h.s.S a).2
 .exact(h.u.S a).2
 .exact h.st.dj g a
 .exact(h.q.S a).2
 exact(h.m.S a).2
theorem Ay.stays{w:Zh}{c:Nat}{U:Dg}{f:Zj}{v:Vd}(h:Ay w c S U T P L Q M f v){V:List Nat}(d:Tn V w w')(k:∀b∈V,b∉DC S U T P L Q M f):Ay w' c S U T P L Q M f v:=by have e:∀b∈DC S U T P L Q M f,b∉V:=gG;unfold DC at e;simp only[A5,A6]at e;exact⟨h.s.O d (λg a=>e g (cr (cr a))),h.u.O d (λg a=>e g (cr (ct a))),h.st.apart d (λb i j=>e b (ct (cr j)) i),h.q.O d (λg a=>e g (ct (ct (cr a)))),h.m.O d (λg a=>e g (ct (ct (ct a)))),h.nd⟩
theorem Ay.A{w b:Zh}{U:Dg}{a:Zj}{v:Vd}(h:Ay w base S U T P L Q M a v)(c:Zz w b):Ay b base S U T P L Q M a v:=
 h.stays (V:=[]) (Tn.of c) Yu
theorem Ay.mono{w:Zh}{base':Nat}{U:Dg}{rs:Zj}{v:Vd}(h:Ay w base S U T P L Q M rs v)(a:base'<=base):Ay w base' S U T P L Q M rs v:=
 ⟨h.s.ah a,h.u.ah a,h.st.ah a,h.q.ah a,h.m.ah a,h.nd⟩
abbrev Ay.ah:=@Ay.mono
theorem Ay.same{w e:Zh}{U:Dg}{f:Zj}{v:Vd}(h:Ay w base S U T P L Q M f v)(d:w.1.size<=e.1.size)(c:∀b,base<=b->b<w.1.size->e.1[b]?=w.1[b]?):Ay e base S U T P L Q M f v:=
 ⟨h.s.stays d (λg a=>c g (h.s.S a).1 (h.s.S a).2),h.u.stays d (λg a=>c g (h.u.S a).1 (h.u.S a).2),h.st.same c,h.q.stays d (λg a=>c g (h.q.S a).1 (h.q.S a).2),h.m.stays d (λg a=>c g (h.m.S a).1 (h.m.S a).2),h.nd⟩
theorem Ay.of{w:Zh}{c n1 n2:Nat}{U:Dg}{j:Zj}{v:Vd}(z:Ah w c S v.ss)(A:Ah w c U v.D)(p:∀g,Aj S=ai g->Aj U≠ai g)(r:∀g,Aj S=ai g\/Aj U=ai g->g<n1)(i:Bc w n1 T P L j v.B v.ps v.ls)(d:c<=n1)(t:∀g∈BJ T P L j,g<n2)(y:Ah w c Q v.F)(x:Ah w c M v.ms)(k:∀g,Aj Q=ai g\/Aj M=ai g->n2<=g)(D:n1<=n2)(n:∀g,Aj Q=ai g->Aj M≠ai g):Ay w c S U T P L Q M j v:=by
 refine⟨z,A,i.ah d,y,x,?_⟩;have l:=i.nd;rw[Ho]at l;have dm:=i.lo;unfold DC;generalize BJ T P L j=B at *
 generalize Aj S=s at *
 generalize Aj U=u at *
 generalize Aj Q=q at *
 generalize Aj M=m at *
 have h:∀o:Option Nat,o.toList.Nodup:=gG;simp only[nodup_append,A5,A6];refine⟨⟨h _,h _,λa f b d e=>p a f (e▸d)⟩,⟨l,⟨h _,h _,λa f b d e=>n a f (e▸d)⟩,λa f b d e=> ?_⟩,λa f b d e=> ?_⟩
 .have C:=t a f;have E:=k b d;omega
 have C:=r a f;rcases d with d|d
 .have:=dm b d;omega
 have:=k b d;omega
def AV(v:Vd)(S U T P L Q M:Value):Zj:=[Zg v.wd,Zg v.J,S,U,Zg v.P,Zg v.G,Zg v.H,Zg v.E,T,P,L,Zg v.I,Q,M,Zg v.L,Zg v.K,Zg v.ro]
def VRa(v:Vd)(L:Nat)(X:Zh)(cs:Zj):Prop:=
 ∃a:Va,cs=AV v (bx a.y (ed v.ss) a.sc) (bx a.ta (ed v.D) a.d) (bx a.W (ed v.B) a.j) (bx a.Z (ed v.ps) a.g) (bx a.X (ed v.ls) a.e) (bx a.qa (ed v.F) a.qc) (bx a.i (ed v.ms) a.mc)/\Bg X L a v
theorem Ay.io{a:Nat}{U:Dg}{p:Zj}{v:Vd}(h:Ay X a S U T P L Q M p v):VRa v X.1.size X (AV v S U T P L Q M):=by obtain⟨q,r,rfl,b⟩:=h.s.row;obtain⟨u,w,rfl,c⟩:=h.u.row;obtain⟨s,t,l,m,g,i,rfl,rfl,rfl,d⟩:=h.st.rows;obtain⟨n,o,rfl,e⟩:=h.q.row;obtain⟨j,k,rfl,f⟩:=h.m.row;exact⟨⟨q,r,u,w,s,t,l,m,g,i,n,o,j,k⟩,rfl,⟨b,c,d,e,f⟩⟩
theorem Bc.at{w:Zh}{c:Zj}{e:C5}{j:C7}{f:C6}(h:Bc w base T P L c e j f)(b:∀g∈BJ T P L c,w'.1[g]?=w.1[g]?):Bc w' base T P L c e j f:=
 ⟨h.len,Ar h.aw (λg a=>b g I8),λi k r l d=>Ar (h.C i k r l d) (λg a=>b g (by unfold BJ;simp only[A5,mem_filterMap];exact ct (ct (ct ⟨r,Zs d,a⟩)))),Ar h.pins (λg a=>b g I8),Ar h.bh (λg a=>b g I8),h.nd⟩
theorem Ay.ak{c:Zh}{h:Nat}{U:Dg}{d:Zj}{u:Vd}(b:Ay X h S U T P L Q M d u)(i:∀g∈DC S U T P L Q M d,g<N)(f:X.1.size<=c.1.size)(k:∀q,h<=q->q<N->c.1[q]?=X.1[q]?):Ay c h S U T P L Q M d u:=by
 have e:∀g∈DC S U T P L Q M d,c.1[g]?=X.1[g]?:=λg a=>k g (b.lo g a) (i g a);have j:∀g∈BJ T P L d,c.1[g]?=X.1[g]?:=λg a=>e g (by unfold DC;simp only[A5];exact ct (cr a));unfold DC at e;simp only[A5,A6]at e;exact⟨b.s.stays f (λg a=>e g (cr (cr a))),b.u.stays f (λg a=>e g (cr (ct a))),b.st.at j,b.q.stays f (λg a=>e g (ct (ct (cr a)))),b.m.stays f (λg a=>e g (ct (ct (ct a)))),b.nd⟩
theorem Dr.gx{n:Zh}{f d:Nat}{b:Int}{p:C5}{s:C7}(h:Dr V f d m O P L t k b a p s q)(z:d<B)(A:m<B)(y:f<=B){l:Option Nat}(u:V.grownBy n l)(v:∀r,l=ai r->B<=r/\∃o,V.1[r]?=ai o/\By o=ay):Dr n f d m O P L t k b a p s q:=by
 refine(DU.O ⟨h⟩ (CX u) (λr g=> ?_)).R;obtain⟨x,o,i,j⟩:=v r gA;refine⟨Yv,λg=> ?_,λw w e=> ?_⟩
 .unfold vB at g;simp only[Bh,A5,A6]at g;rcases g with e|e|e|e|e
  .omega
  .omega
  .obtain⟨c,g⟩:=BN h.ord e;rw[i]at g;cases g;simp[By]at j
  .obtain⟨c,g⟩:=BN h.co e;rw[i]at g;cases g;simp[By]at j
  obtain⟨c,g⟩:=BN h.di e;rw[i]at g;cases g;simp[By]at j
 rw[i]at e;cases e;simp[By]at j
theorem Dr.de{k d:Nat}{q:C5}{s:C7}{r:C6}(h:Dr V k d m O P L t l g f q s r){o:Obj}(j:V.1[b]?=ai o)(i:By o=ay)(n:b≠d)(p:b≠m):b∉vB d m O P L/\NS V b:=by
 refine⟨λa=> ?_,λu u e=> ?_⟩
 .unfold vB at a;simp only[Bh,A5,A6]at a;rcases a with e|e|e|e|e
  .exact n e
  .exact p e
  .obtain⟨c,a⟩:=BN h.ord e;rw[j]at a;cases a;simp[By]at i
  .obtain⟨c,a⟩:=BN h.co e;rw[j]at a;cases a;simp[By]at i
  obtain⟨c,a⟩:=BN h.di e;rw[j]at a;cases a;simp[By]at i
 rw[j]at e;cases e;simp[By]at i
theorem Dr.rebase{e d:Nat}{k:C7}(h:Dr V e d m O P L l i c a [] k j)(g:b<=e):Dr V b d m O P L l i c a [] k j:=by
 have⟨n,f,o,p,q⟩:=h.map;refine⟨h.box,⟨n,f,o,p,λs r=> ?_⟩,h.ord.ah g,h.co.ah g,h.di.ah g,Zm g h.bd,Zm g h.bm,h.ap⟩;rcases q s r with h|⟨u,_,_,t,_⟩
 .exact cr h
 simp at t
theorem Dr.im{l:Zh}{j d:Nat}{q:C5}{s:C7}{r:C6}(h:Dr V j d m O P L t p g f q s r)(u:d<B)(v:m<B)(n:Tn (vB d m O P L) V l):BB B V l:=by
 refine⟨n.size,λb o a i k=>(n.block b (A0.1 i).1 (λa=> ?_)).ag i⟩;unfold vB at a;simp only[Bh,A5,A6]at a;rcases a with e|e|e|e|e
 .omega
 .omega
 .obtain⟨c,a⟩:=BN h.ord e;rw[i]at a;cases a;simp[By]at k
 .obtain⟨c,a⟩:=BN h.co e;rw[i]at a;cases a;simp[By]at k
 obtain⟨c,a⟩:=BN h.di e;rw[i]at a;cases a;simp[By]at k
theorem BB.js{W d:Zh}{c:Option Nat}(f:W.grownBy d c)(a:∀j,c=ai j->j<B):BB B W d:=
 ⟨f.size,λb _ g h _=>(f.block b (A0.1 h).1 (λe=>C8 (a b e.symm))).ag h⟩
theorem BB.A{a:Zh}(h:Zz V a):BB B V a:=⟨h.size,λb _ _ c _=>(h.block b (A0.1 c).1).ag c⟩
section
attribute [local go_sem] Oper.semAt_some
theorem Sg{z:Nat}{T U:TypeId}{v:Dg}(g:Boxed V (z+1) T (.pointer an))(d:Boxed V (z+1+1) U v)(h:z+1+1<B)(u:Dg):BB B V (el (el V (Zd (z+1) 0) (.pointer an)) (Zd (z+1+1) 0) u)/\bg z V (el (el V (Zd (z+1) 0) (.pointer an)) (Zd (z+1+1) 0) u)/\Boxed (el (el V (Zd (z+1) 0) (.pointer an)) (Zd (z+1+1) 0) u) (z+1) T (.pointer an)/\Boxed (el (el V (Zd (z+1) 0) (.pointer an)) (Zd (z+1+1) 0) u) (z+1+1) U u:=by
 obtain⟨b,c,a⟩:=grownBy_setCell' V (z+1) (.pointer an),grownBy_setCell' (el V (Zd (z+1) 0) (.pointer an)) (z+1+1) u,g.set (.pointer an);have f:Boxed (el V (Zd (z+1) 0) (.pointer an)) (z+1+1) U v:=(b.block _ (A0.1 d).1 (λe=>C8 (A2 e))).ag d;refine⟨(BB.js b (λj e=>by cases e;omega)).ag (BB.js c (λj e=>by cases e;omega)),(Below.setCell (Below.setCell Ae (show z<=z+1 by omega) _) (show z<=z+1+1 by omega) _),(c.block _ (A0.1 a).1 (λe=>C8 (A2 e))).ag a,f.set u⟩
theorem MR(f:Int)(gf:Nat)(pre lb:Array Value)(xs:Zl){w:Zh}(h1:1<=f)(h8:f<=8)(hx:ed xs<=100000)(hs:∀s∈xs,s.size<=1048576)(J:Env w)(eg:∀args w,(callFunc gf args).run prog w=.ok (.enter gf args) w)(zM:∀W,Zz w W->FA prog gf (λl=>pre++ #[.func (.yield l) #[] #[]]++lb) xs w.1.size W):
 D4 48 #[Zg f,.func (.func gf) pre lb] w λe t=>Zz w t/\((∃n:Nat,DP f xs n/\e=C1 (.tuple #[ea an,Zg n]))\/(∃r d m O P L o,Cc f r0 xs r/\e=C1 (.tuple #[Yy d,Ze])/\Dr t o d m O P L f r.G r.H r.E r.B r.ps r.ls/\(w.1.size<=o/\o+4<=m))):=by
 refine(callsIn_wide (n:=3)).1 ?_;refine callsIn_of_wp_marks func48 rfl trivial ?_ rfl;simp only[ntmps48,Az,length_cons,length_nil,Nat.reduceAdd,Nat.reduceSub,Array.replicate_succ,Array.replicate_zero,push_toArray,append_toArray,nil_append,cons_append];have⟨W0,t⟩:=Ag (((w.alloc (bs #[Zg f] 3)).alloc (bs #[ea an] 90)).alloc (bs #[Ze] 3));have H:=(Bq t).1;have z0:=(Bq t).2.1;have I:=Yw (Ko f 0 0 0 an an an 0 0 0 [] [] [] W0 ⟨cr rfl,cr rfl,cr rfl⟩ Yu Yu Yu Yu h8);have F:=Yw t
 gi_wp2_with fail
 refine⟨trivial,?_⟩;rw[<-F.o];refine(callsIn_wide.2 I).ah ?_;rintro e o ⟨d,m,O,P,L,rfl,y,_,_,C⟩;obtain⟨E,u,A⟩:=H.ag (C.ah H.size),Ag ((o.alloc (bs #[Yy d] 90)).alloc (bs #[Ze] 3));have G:=Yw A;have z:=(AT A).1;have zA:bg w.1.size w u:=E.ag (z.ah E.size);have z2:=(AT A).2.1;have yH:w.1.size+3<=o.1.size:=C8 C.size;have x2:Boxed u w.1.size 3 (Zg f):=by show u.1[w.1.size]?=_;rw[z.block _ Yv,C.block _ Yv,t,Below.heap_alloc _ _ _ Yt,Below.heap_alloc _ _ _ Yu];exact heap_alloc_new w _
 have x4:Boxed u (w.1.size+1) 90 (.pointer an):=by show u.1[w.1.size+1]?=_;rw[z.block _ Yv,C.block _ Yv,t,Below.heap_alloc _ _ _ Yu];have:=heap_alloc_new (w.alloc (bs #[Zg f] 3)) (bs #[ea an] 90);rw[Aq]at this;exact this
 have x5:Boxed u (w.1.size+1+1) 3 Ze:=by show u.1[w.1.size+1+1]?=_;rw[z.block _ Yv,C.block _ Yv,t];have:=heap_alloc_new ((w.alloc (bs #[Zg f] 3)).alloc (bs #[ea an] 90)) (bs #[Ze] 3);rw[Aq,Aq]at this;exact this
 have x6:Boxed u o.1.size 90 (Yy d):=by show u.1[o.1.size]?=_;rw[A,Below.heap_alloc _ _ _ Yu];exact heap_alloc_new o _
 have x7:Boxed u (o.1.size+1) 3 Ze:=by show u.1[o.1.size+1]?=_;rw[A];have:=heap_alloc_new (o.alloc (bs #[Yy d] 90)) (bs #[Ze] 3);rw[Aq]at this;exact this
 have zG:d<o.1.size:=y.dj d Ja;have zH:m<o.1.size:=y.dj m Ja;have yC:=y.bd;have yE:=y.bm;have zW:Dr u w.1.size d m O P L f 0 0 0 [] [] []:=(y.A z).rebase Yv;have HE:Hid (∀V,Zz w V->Env V):=λV M=>J.A M;clear I F t A y C z E H J
 gi_wp2_with fail
 rw[<-G.o];clear G;have M:∀(b:Nat) (T:TypeId) (v:Dg),b<u.1.size->Ct u.1.size (λ_ V=>Boxed V b T v):=λb T v C=>Dj (bs #[v] T) C;refine Ii (gf:=gf) (pre:=pre) (lb:=lb) rfl eg (xs:=xs) (n0:=w.1.size) (zM u zA) zA.size rfl
  (λk V=>Zz w V/\Boxed V w.1.size 3 (Zg f)/\Boxed V (w.1.size+1) 90 (.pointer an)/\Boxed V (w.1.size+1+1) 3 Ze/\Boxed V o.1.size 90 (Yy d)/\Boxed V (o.1.size+1) 3 (Zg k)/\∃r O P L,Cc f r0 (xs.take k) r/\Dr V w.1.size d m O P L f r.G r.H r.E r.B r.ps r.ls)
  (λ_ V=>Zz w V/\∃n:Nat,DP f xs n/\Boxed V (w.1.size+1) 90 (.pointer an)/\Boxed V (w.1.size+1+1) 3 (Zg n))
  ?stI ?stX ⟨zA,x2,x4,x5,x6,x7,r0,O,P,L,rfl,zW⟩
  (λs=>{tmps:= #[Zg f,.func (.func gf) pre lb,Yy w.1.size,undef,Yy (w.1.size+1),Yy (w.1.size+1+1),Yy o.1.size,Yy (o.1.size+1),C0 s,undef,undef,Zg f,ca #[Zg f,Ze,Ze,Ze,Zb,Zb,Zb],Yy d,.func (.func gf) pre lb,C0 s,undef,undef,undef,undef,undef,undef,undef,undef,undef,undef,undef,undef,undef,undef,undef,undef,undef,undef,undef],defers:=[]}) ?assign ?body ?done ?stop
 case stI=>
  refine λk V A t F E y=> ?_;obtain⟨q1,q2,q3,q4,q5,q6,r,O,P,L,q7,q8⟩:=F;exact⟨Es w (Zx) zA.size k V A t q1 E y,M _ _ _ Yv k V A t q2 E y,M _ _ _ Yv k V A t q3 E y,M _ _ _ Yv k V A t q4 E y,M _ _ _ Yv k V A t q5 E y,M _ _ _ Yv k V A t q6 E y,r,O,P,L,q7,q8.gx (B:=u.1.size) Yv Yv Yv E y⟩
 case stX=>
  refine λk V A t F E y=> ?_;obtain⟨q1,n,q2,q3,q4⟩:=F;exact⟨Es w (Zx) zA.size k V A t q1 E y,n,q2,M _ _ _ Yv k V A t q3 E y,M _ _ _ Yv k V A t q4 E y⟩
 case assign=>
  intro l2 m2 s V K Q
  gi_wp2
  exact Q
 case body=>
  rintro l2 m2 k s V zB ⟨W,y2,y4,y5,y6,y7,r,O,P,L,y,BK⟩ zT;have zZ:k<ed xs:=(Zw zB).1;have⟨F,t⟩:=D2 V (o.1.size+1) 0 (Zg ((k:Int)+1));have A:V.grownBy F (ai (o.1.size+1)):=by rw[t];exact grownBy_setCell' V _ _
  have yM:F.1.size=V.1.size:=by rw[t];simp
  have zF:bg w.1.size w F:=by rw[t];exact W.setCell (p:=⟨o.1.size+1,0,an⟩) (by show w.1.size<=o.1.size+1;omega) _
  have u7:Boxed F (o.1.size+1) 3 (Zg ((k:Int)+1)):=by rw[t];exact y7.set _
  have ou:∀{b:Nat} {T:TypeId} {v:Dg},Boxed V b T v->b≠o.1.size+1->Boxed F b T v:=λ{b T v} C hne=>(A.block b (A0.1 C).1 (λe=>hne (A2 e))).ag C;have u2:=ou y2 Yv;have u4:=ou y4 Yv;have u5:=ou y5 Yv;have u6:=ou y6 Yv;obtain⟨zE,HR,c7,f7,c2⟩:=BK.gx (B:=o.1.size) zG zH Yv A (λq e=>by cases e;exact⟨Yv,_,y7,by simp[By]⟩),Yw (Ti s f (hs s (Zs zB)) (HE F zF)),y7.cell,y7.frozen,y2.cell;have yG:¬w.1.size=o.1.size+1:=Yv;have G:=Yw t;clear t
  gi_wp2_with fail
  rw[<-G.o];clear G;refine⟨trivial,λh=>by simp[Fence.wide]at h,?_⟩;refine(callsIn_wide.2 HR).ah ?_;rintro e V2 ⟨v,rfl,D,z⟩;obtain⟨ra,rc,rfl⟩:=AB D;have⟨J,G⟩:=Du V2 (Ye ((AI s f).k) ((AI s f).sum) ((AI s f).name) ((AI s f).n) ((AI s f).t) ra (ed (AI s f).ss) rc) 117;have zC:=(Av G).1;have l:bg F.1.size F J:=z.ag (zC.ah z.size);have q:bg w.1.size w J:=zF.ag (l.ah zF.size);have o3:∀{b:Nat} {T:TypeId} {v:Dg},Boxed F b T v->Boxed J b T v:=λ{b T v} C=>(l.block b (A0.1 C).1).ag C;obtain⟨t2,Y,Z,t6,t7,t,e3⟩:=o3 u2,o3 u4,o3 u5,o3 u6,o3 u7,zE.A l,(Av G).2.2;have zJ:BB u.1.size V J:=(BB.js A (λj e=>by cases e;omega)).ag (BB.A l);have zK:bg w.1.size V J:=(show bg w.1.size V F from⟨A.os,A.tape,A.output,A.size,λb C=>A.block b (C8 W.size) (λe=>C8 (A2 e))⟩).ag (l.ah zF.size);have T:=Yw G;have yL:w.1.size+3<=V2.1.size:=by have h1:=z.size;have h2:=zT;omega
  have yK:o.1.size+1<V2.1.size:=by have h1:=z.size;have h2:=zT;omega
  clear G;cases hok:(AI s f).ok with
  |false=>
   have j:DP f xs (k+1):=⟨k,r,s,rfl,zB,y,cr hok⟩;obtain⟨zV,f5,f4,d4,d5⟩:=t7.cell,Z.frozen,Y.frozen,Y.cell,Z.cell;clear c7 c2 f7 e3 HR D;have HS:=Yw (Sg (B:=u.1.size) Y Z Yv (Zg ((k:Int)+1)))
   gi_wp2_with fail
   rw[<-T.o];refine⟨trivial,?_⟩
   gi_wp2_with fail
   gi_region
   all_goals gi_wp2_with fail
   all_goals exact⟨zJ.ag ⟨HS.1.size,HS.1.same⟩,q.ag HS.2.1.drew,k+1,j,HS.2.2.1,HS.2.2.2⟩
  |true=>
   have zP:=(GJ hok).1;have I:IQ f r.G r.H r.E r.B r.ps r.ls (AI s f).k (AI s f).n (AI s f).t (AI s f).ss:=Gk.jn (y.ok (Fq h1 h8)) zP (by have:=QB zP;unfold eo;omega);have zI:=Ai D zC;have H:=zE.dj;have N:En J w.1.size (vB d m O P L) ra (AI s f).ss:=by
    rcases zI.2 with⟨_,h0⟩|⟨g,yB,zN,hv,yD,E,_⟩
    .exact cr (A9 h0)
    cases hv;refine ct ⟨g,0,rfl,(A0.1 E).1,λG=>C8 (H g G),ct ⟨Yv,zN,E⟩,λi x hx=> ?_⟩;rcases Ad.own zI with h|⟨b',yA,e',_,hc⟩
    .rw[h]at hx;simp at hx
    cases e';exact hc i x hx
   have HA:Hid _:=Lz d (vB d m O P L) (AI s f).k (AI s f).sum (AI s f).name (AI s f).t (AI s f).n ra (ed (AI s f).ss) rc (λc a b=>Gh f r.G r.H r.E r.B r.ps r.ls (AI s f).k (AI s f).sum (AI s f).name (AI s f).n (AI s f).t (AI s f).ss c a b) (λsm le X=>∃S,Db f r.G r.H r.E r.B r.ps r.ls (AI s f).k (AI s f).sum (AI s f).name (AI s f).n (AI s f).t (AI s f).ss S/\S.sm=sm/\S.le=le/\Ka w.1.size d m f S X) J t.dj (λsm le X a R zN q1 q2 q3 q4=>by
    obtain⟨S,A,a,g3,g4⟩:=q1;have yI:=l.size;exact⟨S,A,a,g3,g4.stays q2 Yv Yv q4⟩) (λX x=>MQ w.1.size d m O P L (AI s f).sum (AI s f).name ra rc X (DU.A ⟨t⟩ x) I (N.move (U:=[]) (Tn.of x) Yu (λb C=> cr C)))
   have d6:eh V2 (Zd (o.1.size) 0)=ai (Yy d):=(z.cell (p:=⟨o.1.size,0,an⟩) (by show o.1.size<_;omega)).ag u6.cell;have yJ:o.1.size<V2.1.size:=Yv;have zU:Hid (xs.take (k+1)=xs.take k++[s]):=(by have hq:=Zu zZ;rw[(Zw zB).2]at hq;exact hq);clear c7 c2 f7 HR D zI N I H e3
   gi_wp2_with fail
   rw[<-T.o];clear T;refine⟨trivial,λh=>by simp[Fence.wide]at h,?_⟩;refine(callsIn_wide.2 HA).ah ?_;intro e N zX;obtain⟨c,a',b',T,rfl,H⟩|⟨sm,le,rfl,⟨S,hy,_,_,⟨O',P',L',zO⟩⟩,H⟩:=zX
   .have yF:(c !=0)=ay:=(by have:=T.code;simp;omega);have j:DP f xs (k+1):=⟨k,r,s,rfl,zB,y,ct ⟨c,a',b',T⟩⟩;have I:=t.im (B:=o.1.size) zG zH H;have x:bg w.1.size J N:=H.A q.size (λb G=>by
     have:=t;unfold vB at G;simp only[Bh,A5,A6]at G;rcases G with h|h|h|h|h
     .rw[h];exact this.bd
     .rw[h];exact this.bm
     .exact(Ab this.ord h).1
     .exact(Ab this.co h).1
     exact(Ab this.di h).1)
    have s7:Boxed N (o.1.size+1) 3 (Zg ((k:Int)+1)):=I.same _ _ Yv t7 J8;have D:Boxed N (w.1.size+1) 90 (.pointer an):=(H.block _ (A0.1 Y).1 (t.de Y J8 Yv Yv).1).ag Y;have s5:Boxed N (w.1.size+1+1) 3 Ze:=(H.block _ (A0.1 Z).1 (t.de Z J8 Yv Yv).1).ag Z;obtain⟨HS,zV,f5,f4,d4,d5⟩:=Yw (Sg (B:=u.1.size) D s5 Yv (Zg ((k:Int)+1))),s7.cell,s5.frozen,D.frozen,D.cell,s5.cell;have K4:=Yw (Zn (I.ah (B':=u.1.size) Yv) x);clear I x H T d6 HA;have zY:∀X:Zh,(Instr.field 81 (ca #[Zg c,Ze,Ze,Ze,Ze,Zb,Zb,Zb,Zc,Ze,C0 a',C0 b']) 0).run prog X=.ok (Zg c) X:=λ_=>Yr;have zS:(Cp c a' b').toArray= #[Zg c,Ze,Ze,Ze,Ze,Zb,Zb,Zb,Zc,Ze,C0 a',C0 b']:=rfl;rw[zS];clear zS
    gi_wp2_with fail
    gi_region
    all_goals gi_wp2_with fail
    all_goals exact⟨(zJ.ag K4.1).ag ⟨HS.1.size,HS.1.same⟩,(q.ag K4.2).ag HS.2.1.drew,k+1,j,HS.2.2.1,HS.2.2.2⟩
   have I:=t.im (B:=o.1.size) zG zH H;have x:bg w.1.size J N:=H.A q.size (λb G=>by
    have:=t;unfold vB at G;simp only[Bh,A5,A6]at G;rcases G with h|h|h|h|h
    .rw[h];exact this.bd
    .rw[h];exact this.bm
    .exact(Ab this.ord h).1
    .exact(Ab this.co h).1
    exact(Ab this.di h).1)
   have s7:Boxed N (o.1.size+1) 3 (Zg ((k:Int)+1)):=I.same _ _ Yv t7 J8;have s6:Boxed N o.1.size 90 (Yy d):=I.same _ _ Yv t6 J8;have s2:Boxed N w.1.size 3 (Zg f):=(H.block _ (A0.1 t2).1 (t.de t2 J8 Yv Yv).1).ag t2;have D:Boxed N (w.1.size+1) 90 (.pointer an):=(H.block _ (A0.1 Y).1 (t.de Y J8 Yv Yv).1).ag Y;have s5:Boxed N (w.1.size+1+1) 3 Ze:=(H.block _ (A0.1 Z).1 (t.de Z J8 Yv Yv).1).ag Z;have G:Cc f r0 (xs.take (k+1)) S:=(by rw[zU.o];exact y.snoc ⟨hok,hy⟩);have K4:=Yw (Zn (I.ah (B':=u.1.size) Yv) x);have HF:=Yw (Zn s7 (Zn s6 (Zn s2 (Zn D (Zn s5 (Zn G zO))))));clear I x H d6 HA s7 s6 s2 D s5 G zO hy;have zY:∀X:Zh,(Instr.field 81 (ca #[Ze,Ze,Ze,Ze,Ze,Zb,Zb,Zb,C0 sm,Zg le,Zc,Zc]) 0).run prog X=.ok Ze X:=λ_=>Yr
   gi_wp2_with fail
   exact⟨zJ.ag K4.1,⟨q.ag K4.2,HF.2.2.1,HF.2.2.2.1,HF.2.2.2.2.1,HF.2.1,HF.1,S,O',P',L',HF.2.2.2.2.2.1,HF.2.2.2.2.2.2⟩,zK.ag K4.2⟩
 case done=>
  rintro D V hD ⟨W,y2,y4,y5,y6,y7,r,O,P,L,y,BK⟩ Q;rw[Zt (Zx)]at y;obtain⟨c6,f4,d4,f5,d5,A,a,R1,G⟩:=y6.cell,y4.frozen,y4.cell,y5.frozen,y5.cell,grownBy_setCell' V (w.1.size+1) (Yy d),grownBy_setCell' (el V (Zd (w.1.size+1) 0) (Yy d)) (w.1.size+1+1) Ze,D2 V (w.1.size+1) 0 (Yy d);have⟨x,H⟩:=D2 R1 (w.1.size+1+1) 0 Ze;rw[<-G]at A a;rw[<-H]at a;have p4:Boxed R1 (w.1.size+1) 90 (Yy d):=by rw[G];exact y4.set _
  have p5:Boxed R1 (w.1.size+1+1) 3 Ze:=(A.block _ (A0.1 y5).1 (λe=>C8 (A2 e))).ag y5;have q5:Boxed x (w.1.size+1+1) 3 Ze:=by rw[H];exact p5.set _
  have q4:Boxed x (w.1.size+1) 90 (Yy d):=(a.block _ (A0.1 p4).1 (λe=>C8 (A2 e))).ag p4;have I:x.1[D]?=ai (.deferred (ai [])):=(a.block _ (by have:=A.size;have:=(A0.1 Q).1;omega) (λe=>C8 (A2 e))).ag ((A.block _ (A0.1 Q).1 (λe=>C8 (A2 e))).ag Q);have R:=DU.O ⟨BK⟩ (CX A) (λb C=>by
   obtain rfl:b=w.1.size+1:=C9 C;exact⟨Yv,BK.de y4 J8 Yv Yv⟩)
  have X:=DU.O R (CX a) (λb C=>by
   obtain rfl:b=w.1.size+1+1:=C9 C;exact⟨Yv,R.R.de p5 J8 Yv Yv⟩)
  have C:=X.R.gx (B:=u.1.size) Yv Yv Yv (grownBy_putObj' x D (.deferred an)) (λr e=>by cases e;exact⟨hD,_,I,rfl⟩);have e4:=cell_kept q4.cell (grownBy_putObj' _ D (.deferred an)) (λr e=>by cases e;exact⟨_,I,rfl⟩);have e5:=cell_kept q5.cell (grownBy_putObj' _ D (.deferred an)) (λr e=>by cases e;exact⟨_,I,rfl⟩);have b:bg w.1.size w x:=by rw[H,G];exact(W.setCell (p:=⟨w.1.size+1,0,an⟩) (by show _<=_+1;omega) _).setCell (p:=⟨w.1.size+1+1,0,an⟩) (by show _<=_+1+1;omega) _
  have HR:=Yw (Zn G H);clear A a G H p4 p5 q4 q5 R X BK
  gi_wp2_with fail
  rw[<-HR.1,<-HR.2];refine⟨Yu,cr ⟨_,_,rfl,run_takeDeferred I,?_⟩⟩;refine⟨.tuple #[Yy d,Ze],by simp[results,results48,go_sem,e4,e5],?_,ct ⟨r,d,m,O,P,L,w.1.size,y,rfl,C,Zx,Yv⟩⟩;exact b.ag ⟨rfl,rfl,rfl,Yu,λi A=>putObj_heap_other Yv⟩
 rintro D k V hD ⟨W,n,T,y4,y5⟩ Q;have d4:=cell_kept y4.cell (grownBy_putObj' _ D (.deferred an)) (λr e=>by cases e;exact⟨_,Q,rfl⟩);have d5:=cell_kept y5.cell (grownBy_putObj' _ D (.deferred an)) (λr e=>by cases e;exact⟨_,Q,rfl⟩)
 gi_wp2
 refine⟨Yu,cr ⟨_,_,rfl,run_takeDeferred Q,?_⟩⟩;refine⟨.tuple #[ea an,Zg n],by simp[results,results48,go_sem,d4,d5],?_,cr ⟨n,T,rfl⟩⟩;exact W.ag ⟨rfl,rfl,rfl,Yu,λi A=>putObj_heap_other Yv⟩
end
def Agl(wd:Int)(xs:Zl)(w:Zh)(e:Ending)(w':Zh):Prop:=
 ∃(x:An) (T P L:Value) (rs:Zj),QE wd xs x/\e=.returned (ca #[Zg x.code,Zg x.wd,Zg x.G,Zg x.H,Zg x.E,T,P,L,.string x.sm,Zg x.le,.string x.a,.string x.b])/\Bc w' w.1.size T P L rs x.B x.ps x.ls/\Zz w w'
theorem c12{w:Zh}{d e f g i j k l m n a c:Dg}(h:Aa w b [d,e,f,g,i,j,k,l,m,n,a,c]):(eh w (Zd b 0)=ai d/\ei w ⟨b,0,an⟩=ba)/\(eh w (Zd b 1)=ai e/\ei w ⟨b,1,an⟩=ba)/\(eh w (Zd b 2)=ai f/\ei w ⟨b,2,an⟩=ba)/\(eh w (Zd b 3)=ai g/\ei w ⟨b,3,an⟩=ba)/\(eh w (Zd b 4)=ai i/\ei w ⟨b,4,an⟩=ba)/\(eh w (Zd b 5)=ai j/\ei w ⟨b,5,an⟩=ba)/\(eh w (Zd b 6)=ai k/\ei w ⟨b,6,an⟩=ba)/\(eh w (Zd b 7)=ai l/\ei w ⟨b,7,an⟩=ba)/\(eh w (Zd b 8)=ai m/\ei w ⟨b,8,an⟩=ba)/\(eh w (Zd b 9)=ai n/\ei w ⟨b,9,an⟩=ba)/\(eh w (Zd b 10)=ai a/\ei w ⟨b,10,an⟩=ba)/\eh w (Zd b 11)=ai c/\ei w ⟨b,11,an⟩=ba:=
 ⟨h 0 _ rfl,h 1 _ rfl,h 2 _ rfl,h 3 _ rfl,h 4 _ rfl,h 5 _ rfl,h 6 _ rfl,h 7 _ rfl,h 8 _ rfl,h 9 _ rfl,h 10 _ rfl,h 11 _ rfl⟩
theorem c6{w:Zh}{a c d e f g:Dg}(h:Aa w b [a,c,d,e,f,g]):(eh w (Zd b 0)=ai a/\ei w ⟨b,0,an⟩=ba)/\(eh w (Zd b 1)=ai c/\ei w ⟨b,1,an⟩=ba)/\(eh w (Zd b 2)=ai d/\ei w ⟨b,2,an⟩=ba)/\(eh w (Zd b 3)=ai e/\ei w ⟨b,3,an⟩=ba)/\(eh w (Zd b 4)=ai f/\ei w ⟨b,4,an⟩=ba)/\eh w (Zd b 5)=ai g/\ei w ⟨b,5,an⟩=ba:=
 ⟨h 0 _ rfl,h 1 _ rfl,h 2 _ rfl,h 3 _ rfl,h 4 _ rfl,h 5 _ rfl⟩
def RdS(n:Nat)(w:Zh)(ta pa la:Zk)(ks:List Kd)(ps:List Pd)(ls:List Ld):Prop:=∀V w',(∀b∈V,b<n)->Tn V w w'->BV w' w'.1.size ta pa la ks ps ls
theorem Bc.rdS{w:Zh}{a:Nat}{g f e:Zk}{r p o:Nat}{q:Zj}{b:C5}{d:C7}{c:C6}(h:Bc w a (Cx g (ed b) r) (Cx f (ed d) p) (Cx e (ed c) o) q b d c):RdS a w g f e b d c:=λV i l n=>by have⟨_,_,_,_,_,_,i,j,k,m⟩:=(h.O n l).rows;cases i;cases j;cases k;exact m
theorem Bc.get{w:Zh}{a:Nat}{g f e:Zk}{l j i:Nat}{k:Zj}{b:C5}{d:C7}{c:C6}(h:Bc w a (Cx g (ed b) l) (Cx f (ed d) j) (Cx e (ed c) i) k b d c):BV w w.1.size g f e b d c:=
 h.rdS [] w Yu (Tn.of Ae)
theorem Aa.fx{w:Zh}(a c d:Zj)(h:Aa w B (a++(c++d))):w.rangeAt B (ed a) c:=λj v b=>by refine(h (ed a+j) v ?_).1;rw[getElem?_append_right Yv,Nat.add_sub_cancel_left,getElem?_append_left (Zw b).1];exact b
theorem MS(n:Int)(w:Zh):
 D4 46 #[Zg n] w λe a=>e=C1 (ec (decide (0<=n/\n<=1000000)))/\a=w:=by
 by_cases h1:0<=n
 .by_cases h2:n<=1000000
  .delta D4;go_in;go_wp2;go_ret;exact⟨AE Yt,rfl⟩
  have b:decide (n<=1000000)=ba:=Yt;delta D4;go_in;go_wp2;go_ret;exact⟨rfl,rfl⟩
 have a:decide (0<=n)=ba:=Yt;delta D4;go_in;go_wp2;go_ret;exact⟨rfl,rfl⟩
structure Mc (w:Zh) (lo k d m base:Nat) (O P L:Value) (v:Vd) (a:Va) (r:Rs):Prop where
 box:Aa w k [.int .i32 0,.int .u32 0,Zg v.wd,Zg v.J,bx a.y (ed v.ss) a.sc,bx a.ta (ed v.D) a.d,Zg v.P,Zg v.G,Zg v.H,Zg v.E,bx a.W (ed v.B) a.j,bx a.Z (ed v.ps) a.g,bx a.X (ed v.ls) a.e,Zg v.I,bx a.qa (ed v.F) a.qc,bx a.i (ed v.ms) a.mc,Zg v.L,Zg v.K,Zg v.ro,ea (ai ⟨d,0,an⟩)]
 R:Dr w base d m O P L v.wd r.G r.H r.E r.B r.ps r.ls
 dm:lo<=base
 gj:lo<=k
 lt:∀b∈vB d m O P L,b<k
 br:base+4<=m
 ty:∃cur,w.1[k]?=ai (bs cur 133)
def Rpl(w w':Zh)(v:Vd)(p:Value)(n:Int):Prop:=
 (∃k:Nat,DP v.wd (v.ss++v.D) k/\p=ea an/\n=k)\/(∃r d m O P L base,Cc v.wd r0 (v.ss++v.D) r/\p=ea (ai ⟨d,0,an⟩)/\n=0/\Dr w' base d m O P L v.wd r.G r.H r.E r.B r.ps r.ls/\(w.1.size<=base/\base+4<=m))
theorem JP{v:Vd}{a:Va}{w:Zh}(f:Bg w w.1.size a v)(Z:DM v)(G:Env w):
 D4 33 #[ca (Xr v a)] w λe l=>Zz w l/\((¬BY v/\e=C1 (.tuple #[ea an,ec ba]))\/(∃r k d m O P L g,Bo v r/\e=C1 (.tuple #[Yy k,ec ay])/\Mc l w.1.size k d m g O P L v a r)):=by
 have⟨W,c⟩:=Du w (Xr v a) 34;obtain⟨bW,zW,i⟩:=(Av c).1,(Av c).2.1,(Av c).2.2;have HX:Hid (Aa W _ _):=(Av c).2.2;obtain⟨HR,HW,zA,zC,zG,M,N,Q,R,y4,y5,y6,y7,y8,y9,q,t,x,y,z,A,B⟩:=Yw f,Yw c,Yw (Ml v.wd W),Yw (MS v.J W),Yw (EL a.sc a.d (f.s.U bW) (f.t.U bW) Z.s Z.t Z.ss Z.D),KL i;clear c i f;by_cases hwd:1<=v.wd/\v.wd<=8
 case neg=>rw[decide_eq_false hwd]at zA;delta D4;go_in;go_wp2_with fail;rw[<-HW.o];refine zA.Ak ?_;rintro e w1 ⟨rfl,c⟩;replace c:=c.symm;subst c;clear M N Q R y4 y5 y6 y7 y8 y9 q t x y z A B;go_wp2;refine Co (.tuple #[ea an,ec ba]) Fl ?_;exact⟨bW,cr ⟨λ⟨r,h⟩=>hwd h.wd,rfl⟩⟩
 rw[decide_eq_true hwd]at zA;by_cases hlim:0<=v.J/\v.J<=1000000
 case neg=>
  rw[decide_eq_false hlim]at zC;delta D4;go_in;go_wp2_with fail;rw[<-HW.o];refine zA.Ak ?_;rintro e w1 ⟨rfl,c⟩;replace c:=c.symm;subst c;go_wp2_with fail;refine zC.Ak ?_;rintro e w1 ⟨rfl,c⟩;replace c:=c.symm;subst c;clear M N Q R y4 y5 y6 y7 y8 y9 q t x y z A B;go_wp2;refine Co (.tuple #[ea an,ec ba]) Fl ?_;exact⟨bW,cr ⟨λ⟨r,h⟩=>hlim h.J,rfl⟩⟩
 rw[decide_eq_true hlim]at zC;cases hlog:BR v.ss v.D with
 |true=>
  rw[hlog]at zG;have yE:=Gr hlog;have yS:ed v.ss<=4000:=by rw[Am]at yE;omega
  have yT:ed v.D<=4000:=by rw[Am]at yE;omega
  have U:Hid (∀X,D4 49 #[ca #[Cw a.y v.ss a.sc,Cw a.ta v.D a.d]] X λe l=>e=C1 (ca #[Cw a.y v.ss a.sc,Cw a.ta v.D a.d])/\Zz X l):=λX=>EG a.y a.ta (ed v.ss) (ed v.D) a.sc a.d X;have Y:Hid (∀X,Zz w X->D4 48 #[Zg v.wd,.func (.func 50) #[ca #[Cw a.y v.ss a.sc,Cw a.ta v.D a.d]] #[]] X λe l=>∃p n,e=C1 (.tuple #[p,Zg n])/\Hid (Rpl X l v p n)/\Zz X l):=λX f=>by
   refine(MR v.wd 50 #[ca #[Cw a.y v.ss a.sc,Cw a.ta v.D a.d]] #[] (v.ss++v.D) hwd.1 hwd.2 Yv (λs c=>by rcases A5.1 c with h|h;exact Z.ss s h;exact Z.D s h) (G.A f) (enters_of func50 Yr rfl) (λV c=>by
    have hb:=f.ag (c.ah f.size);have h1:=JD a.y a.ta a.sc a.d v.ss v.D X.1.size V ((HR.s.A hb).ah f.size) ((HR.t.A hb).ah f.size) c.size Yo Yo;simpa using h1)).ah ?_
   rintro e l ⟨hb,⟨n,i,rfl⟩|⟨r,d,m,O,P,L,g,F,rfl,BK,o⟩⟩
   .exact⟨_,_,rfl,cr ⟨n,i,rfl,rfl⟩,hb⟩
   exact⟨_,_,rfl,ct ⟨r,d,m,O,P,L,g,F,rfl,rfl,BK,o⟩,hb⟩
  clear G;delta D4;go_in;go_wp2_with fail;rw[<-HW.o];refine zA.Ak ?_;rintro e w1 ⟨rfl,c⟩;replace c:=c.symm;subst c;go_wp2_with fail;refine zC.Ak ?_;rintro e w1 ⟨rfl,c⟩;replace c:=c.symm;subst c;go_wp2_with fail;refine zG.Ak ?_;rintro e w2 ⟨rfl,zE⟩;have G:=Aa.A HX zE;have z2:w.1.size+1<=w2.1.size:=C8 zE.size;have yB:=Yw G;have zN:=Yw (bW.ag (zE.ah bW.size));clear M N Q R y4 y5 y6 y7 y8 y9 q t x y z A B zA zC zG zE HW;have⟨M,N,Q,R,_⟩:=KL G;clear G;go_upto_region 3 with fail;generalize (ca (Xr v a):Dg)=dv0;go_cut [4,5] (λp u K=>∃n:Int,u=Zg n/\Hid (Rpl w K v p n/\Zz w2 K))
  case first=>
   go_region_with (first
    |(go_at_call 49;refine(U w2.drew).ah ?_;rintro e w3 ⟨rfl,yJ⟩;have zO:bg w2.1.size w2 w3:=(Below.refl w2.1.size w2).drew.ag yJ;have⟨u0,u1,u2,u3,_⟩:=KL (Aa.A yB zO);have yD:=zN.ag (zO.ah zN.size))
    |(go_at_call 48;refine(Y w3 yD).ah ?_;rintro e w4 ⟨p,n,rfl,yH,yK⟩;have yG:=zO.ag (yK.ah zO.size)))
   all_goals
    go_wp2_with fail;go_meet;refine⟨n,rfl,?_,yG⟩;rcases yH.o with h|⟨r,d,m,O,P,L,g,q1,q2,q3,q4,q5⟩
    .exact cr h
    exact ct ⟨r,d,m,O,P,L,g,q1,q2,q3,q4,Zm yD.size q5.1,q5.2⟩
  clear M N Q R U Y;obtain⟨n,rfl,U⟩:=hcut;have yC:=Yw (Aa.A yB U.2);have G:=Yw (zN.ag (U.2.ah zN.size));rcases U.1 with⟨k,i,hp,hn⟩|⟨r,d,m,O,P,L,g,F,hp,hn,BK,o⟩
  .subst hp hn;have yU:0<(k:Int):=(by obtain⟨j,_,_,rfl,_⟩:=i;omega);have yI:0<k:=Yv;have yV:=decide_eq_true yI;have zH:Hid (¬BY v):=λ⟨r,h⟩=>DP.not hwd.1 hwd.2 i h.run;clear i U;go_upto_region 4 with fail
   go_region
   all_goals go_wp2
   all_goals refine Co (.tuple #[ea an,ec ba]) Fl ?_
   all_goals exact⟨G.drew,cr ⟨zH,rfl⟩⟩
  subst hp hn;have i:=F.ok (Fq hwd.1 hwd.2);have zF:=Yw F;have zS:Hid (∀X,Zz wc X->Dr X g d m O P L v.wd r.G r.H r.E r.B r.ps r.ls):=λX f=>BK.A f;have zB:=Yw o;have zV:Hid (∀X,Zz wc X->D4 52 #[Yy d] X λe l=>∃(E:Zk) (J:Nat) (D:Zk) (I:Nat) (C:Zk) (H:Nat),e=C1 (ca (C4 v.wd r.G r.H r.E E r.B J D r.ps I C r.ls H))/\BV l l.1.size E D C r.B r.ps r.ls/\Zz X l):=λX f=>by refine(GH (BK.A f) i.bn.nd i.bn.sz i.bn.len i.np i.nl i.dz).ah ?_;rintro e l ⟨T,P',L',rs,rfl,hS,hb⟩;obtain⟨E,J,D,I,C,H,rfl,rfl,rfl,hg⟩:=hS.rows;exact⟨E,J,D,I,C,H,rfl,hg,hb⟩
  have zU:Hid (∀(X:Zh) (E D C:Zk) (J I H:Nat),Zz w X->BV X X.1.size E D C r.B r.ps r.ls->D4 69 #[ca (C4 v.wd r.G r.H r.E E r.B J D r.ps I C r.ls H),ca (C4 v.P v.G v.H v.E a.W v.B a.j a.Z v.ps a.g a.X v.ls a.e)] X λe l=>Au ((v.wd=v.P/\r.G=v.G/\r.H=v.H/\r.E=v.E)/\r.B=v.B/\r.ps=v.ps/\r.ls=v.ls) X l e):=λX E D C J I H f hS=>OS v.wd r.G r.H r.E v.P v.G v.H v.E E D C a.W a.Z a.X J I H a.j a.g a.e r.B v.B r.ps v.ps r.ls v.ls X hS ((HR.st.ak f).ah f.size) ⟨C8 i.bn.len,C8 i.np,C8 i.nl⟩ ⟨Z.st.k,Z.st.p,Z.st.l⟩ (λk Y=>C8 (i.dz k Y)) Z.st.r;have yA:Hid (∀X,Zz w X->D4 70 #[ca (Yb v.I a.qa (ed v.F) a.qc a.i (ed v.ms) a.mc v.L v.K v.ro),Zg v.wd,Zg r.E] X λe l=>Au (Bb v.wd r.E v.I v.L v.K v.ro v.F v.ms) X l e):=λX f=>Nq v.I v.L v.K v.ro v.wd r.E a.qc a.mc (HR.q.U f) (HR.m.U f) Z.r hwd.2 i.aj;clear F BK o i U;have⟨M,N,Q,R,y4,y5,y6,y7,y8,y9,q,t,x,y,z,A,B⟩:=KL yC;have zP:Hid (∀X,Zz wc X->Aa X w.1.size (Xq v a)):=λX f=>Aa.A yC f;have F:Hid (∀X,Zz wc X->eh X (Zd (w.1.size) 4)=ai (Zg v.P)/\eh X (Zd (w.1.size) 5)=ai (Zg v.G)/\eh X (Zd (w.1.size) 6)=ai (Zg v.H)/\eh X (Zd (w.1.size) 7)=ai (Zg v.E)/\eh X (Zd (w.1.size) 8)=ai (Cw a.W v.B a.j)/\eh X (Zd (w.1.size) 9)=ai (Cw a.Z v.ps a.g)/\eh X (Zd (w.1.size) 10)=ai (Cw a.X v.ls a.e)/\eh X (Zd (w.1.size) 11)=ai (Zg v.I)/\eh X (Zd (w.1.size) 12)=ai (Cw a.qa v.F a.qc)/\eh X (Zd (w.1.size) 13)=ai (Cw a.i v.ms a.mc)/\eh X (Zd (w.1.size) 14)=ai (Zg v.L)/\eh X (Zd (w.1.size) 15)=ai (Zg v.K)/\eh X (Zd (w.1.size) 16)=ai (Zg v.ro)/\eh X (Zd d 0)=ai (Zg v.wd)/\eh X (Zd d 4)=ai (Zg r.E)):=λX f=>by
   have⟨n0,n1,n2,n3,n4,n5,n6,n7,n8,n9,yL,yM,yN,yO,yP,yQ,yR⟩:=KL (zP X f);exact⟨n4,n5,n6,n7,n8,n9,yL,yM,yN,yO,yP,yQ,yR,((zS X f).box 0 _ rfl).1,((zS X f).box 4 _ rfl).1⟩
  have HL:Hid (∀X,Zz wc X->Zz w X):=λX f=>G.ag (f.ah G.size);have D0:bg wc.1.size wc wc.drew:=Ae.drew;by_cases hP:(v.wd=v.P/\r.G=v.G/\r.H=v.H/\r.E=v.E)/\r.B=v.B/\r.ps=v.ps/\r.ls=v.ls
  case neg=>
   have zH:Hid (¬BY v):=λ⟨r',h⟩=>by obtain rfl:=zF.dq h.run;exact hP h.same
   have zI:=Yw hP;clear hP;go_upto_region 4 with fail;generalize (ca (Xr v a):Dg)=dv0;go_cut [56] (λu K=>u=ec ay/\Hid (Zz wc K))
   case first=>
    clear M N Q R y4 y5 y6 y7 y8 y9 q t x y z A B;have b:Hid (∀X,Zz wc X->X.rangeAt w.1.size 4 (C3 v.P v.G v.H v.E a.W v.B a.j a.Z v.ps a.g a.X v.ls a.e)):=λX f=>Aa.fx [Zg v.wd,Zg v.J,Cw a.y v.ss a.sc,Cw a.ta v.D a.d] (C3 v.P v.G v.H v.E a.W v.B a.j a.Z v.ps a.g a.X v.ls a.e) (Xu v.I a.qa (ed v.F) a.qc a.i (ed v.ms) a.mc v.L v.K v.ro) (zP X f);refine wp_region_held_drew (S:=λX=>X.rangeAt w.1.size 4 (C3 v.P v.G v.H v.E a.W v.B a.j a.Z v.ps a.g a.X v.ls a.e)) Yr (b _ D0) (λhS=> ?_);refine AK 0 Ze ?_;refine AK 1 (ec ba) ?_;try simp only[Act.put,Zq,Zp,Zo]
    refine AK 2 (ec ba) ?_;refine AK 3 (Yy d) ?_;try simp only[Act.put,Zq,Zp,Zo]
    refine AK 5 (Yx w.1.size 4) ?_;refine Di 6 (ca (C4 v.P v.G v.H v.E a.W v.B a.j a.Z v.ps a.g a.X v.ls a.e)) rfl (by exact yieldsIf_load_mid Yp 30 _ rfl w.1.size 4 rfl (C3 v.P v.G v.H v.E a.W v.B a.j a.Z v.ps a.g a.X v.ls a.e) _ (λX h=>h) underlying30 rfl Yr) ?_;try simp only[Act.put,Zq,Zp,Zo]
    refine Bk 4 (λK f=> ?_);go_simp;refine Calls.mono (zV wc.drew D0) ?_;rintro e w5 ⟨E,J,D,I,C,H,rfl,U,zK⟩;have i:=D0.ag zK;try go_simp
    refine f.out _ _ (b w5 i) (λu=> ?_);clear f K;refine Bk 7 (λK f=> ?_);go_simp;refine Calls.mono (zU w5 E D C J I H (HL _ i) U) ?_;rintro e w6 ⟨bb,rfl,Y,zM⟩;have o:=i.ag (zM.ah i.size);obtain rfl:bb=ba:=(by cases bb with|false=>rfl|true=>exact absurd (Y.1 rfl) zI);clear Y U;try go_simp
    refine f.out _ _ (b w6 o) (λU=> ?_);clear f K;refine AK 8 (ec ay) ?_;refine AK 9 (ec ay) ?_;try simp only[Act.put,Zq,Zp,Zo]
    refine AK 10 (ec ay) ?_;refine EK 11 ?_;try simp only[Act.put,Zq,Zp,Zo]
    refine EK 12 ?_;refine EK 13 ?_;try simp only[Act.put,Zq,Zp,Zo]
    refine EK 14 ?_;refine EK 15 ?_;try simp only[Act.put,Zq,Zp,Zo]
    refine EK 16 ?_;refine EK 17 ?_;try simp only[Act.put,Zq,Zp,Zo]
    refine EK 18 ?_;refine EK 19 ?_;try simp only[Act.put,Zq,Zp,Zo]
    refine EK 20 ?_;refine EK 21 ?_;try simp only[Act.put,Zq,Zp,Zo]
    refine EK 22 ?_;refine EK 23 ?_;try simp only[Act.put,Zq,Zp,Zo]
    refine AK 24 (ec ay) ?_;refine wpAnyH_done Yr ?_ _;go_wp2_with fail;go_meet;exact⟨rfl,o⟩
   clear M N Q R y4 y5 y6 y7 y8 y9 q t x y z A B;obtain⟨rfl,s⟩:=hcut;have V:bg w.1.size w _:=G.ag (s.ah G.size);go_wp2;refine Co (.tuple #[ea an,ec ba]) Fl ?_;exact⟨V,cr ⟨zH,rfl⟩⟩
  by_cases hQ:Bb v.wd r.E v.I v.L v.K v.ro v.F v.ms
  .have yF:Hid (Bo v r):=⟨hwd,hlim,hlog,zF,hP,hP.1.2.2.2▸hQ⟩;have zI:=Yw hP;have zT:=Yw hQ;clear hP hQ;go_upto_region 4 with fail;generalize (ca (Xr v a):Dg)=dv0;go_cut [56] (λu K=>u=ec ba/\Hid (Zz wc K))
   case first=>
    clear M N Q R y4 y5 y6 y7 y8 y9 q t x y z A B;go_region_held3 (λX=>eh X (Zd (w.1.size) 4)=ai (Zg v.P)/\eh X (Zd (w.1.size) 5)=ai (Zg v.G)/\eh X (Zd (w.1.size) 6)=ai (Zg v.H)/\eh X (Zd (w.1.size) 7)=ai (Zg v.E)/\eh X (Zd (w.1.size) 8)=ai (Cw a.W v.B a.j)/\eh X (Zd (w.1.size) 9)=ai (Cw a.Z v.ps a.g)/\eh X (Zd (w.1.size) 10)=ai (Cw a.X v.ls a.e)/\eh X (Zd (w.1.size) 11)=ai (Zg v.I)/\eh X (Zd (w.1.size) 12)=ai (Cw a.qa v.F a.qc)/\eh X (Zd (w.1.size) 13)=ai (Cw a.i v.ms a.mc)/\eh X (Zd (w.1.size) 14)=ai (Zg v.L)/\eh X (Zd (w.1.size) 15)=ai (Zg v.K)/\eh X (Zd (w.1.size) 16)=ai (Zg v.ro)/\eh X (Zd d 0)=ai (Zg v.wd)/\eh X (Zd d 4)=ai (Zg r.E))
     (first
       |with_reducible exact F.o _ D0
       |with_reducible exact F.o _ i
       |with_reducible exact F.o _ o
       |with_reducible exact F.o _ B7)
     (first
       |(go_at_call 52;refine Calls.mono (zV wc.drew D0) ?_;rintro e w5 ⟨E,J,D,I,C,H,rfl,U,zK⟩;have i:bg wc.1.size wc w5:=D0.ag zK)
       |(go_at_call 69;refine Calls.mono (zU w5 E D C J I H (HL _ i) U) ?_;rintro e w6 ⟨bb,rfl,Y,zM⟩;have o:=i.ag (zM.ah i.size);clear U;obtain rfl:bb=ay:=Y.2 zI;clear Y)
       |(go_at_call 70;refine Calls.mono (yA w6 (HL _ o)) ?_;rintro e w7 ⟨cc,rfl,zJ,zX⟩;have B7:=o.ag (zX.ah o.size);obtain rfl:cc=ay:=zJ.2 zT;clear zJ))
    all_goals (go_wp2_with fail;go_meet;exact⟨rfl,B7⟩)
   clear M N Q R y4 y5 y6 y7 y8 y9 q t x y z A B;obtain⟨rfl,s⟩:=hcut;have V:bg w.1.size w _:=G.ag (s.ah G.size);have zY:=Yw ((zP _ s).range);have zZ:=Yw (zS _ s);go_wp2_with (refine wpList_load_mid rfl 34 _ rfl w.1.size 0 rfl (Xq v a) _ zY underlying34 rfl Yr ?_);refine Co (.tuple #[Yy wc.1.size,ec ay]) Fl ?_;refine⟨V.alloc V.size _,ct ⟨r,_,d,m,O,P,L,g,yF,rfl,Aa.new _ [.int .i32 0,.int .u32 0,Zg v.wd,Zg v.J,Cw a.y v.ss a.sc,Cw a.ta v.D a.d,Zg v.P,Zg v.G,Zg v.H,Zg v.E,Cw a.W v.B a.j,Cw a.Z v.ps a.g,Cw a.X v.ls a.e,Zg v.I,Cw a.qa v.F a.qc,Cw a.i v.ms a.mc,Zg v.L,Zg v.K,Zg v.ro,Yy d] 133,(zZ.o).A (Zy),zB.1,V.size,λb hb=>zZ.dj b hb,zB.2,_,heap_alloc_new _ _⟩⟩
  have zH:Hid (¬BY v):=λ⟨r',h⟩=>by obtain rfl:=zF.dq h.run;exact hQ (by rw[hP.1.2.2.2];exact h.round)
  have zI:=Yw hP;have zT:=Yw hQ;clear hP hQ;go_upto_region 4 with fail;generalize (ca (Xr v a):Dg)=dv0;go_cut [56] (λu K=>u=ec ay/\Hid (Zz wc K))
  case first=>
   clear M N Q R y4 y5 y6 y7 y8 y9 q t x y z A B;go_region_held3 (λX=>eh X (Zd (w.1.size) 4)=ai (Zg v.P)/\eh X (Zd (w.1.size) 5)=ai (Zg v.G)/\eh X (Zd (w.1.size) 6)=ai (Zg v.H)/\eh X (Zd (w.1.size) 7)=ai (Zg v.E)/\eh X (Zd (w.1.size) 8)=ai (Cw a.W v.B a.j)/\eh X (Zd (w.1.size) 9)=ai (Cw a.Z v.ps a.g)/\eh X (Zd (w.1.size) 10)=ai (Cw a.X v.ls a.e)/\eh X (Zd (w.1.size) 11)=ai (Zg v.I)/\eh X (Zd (w.1.size) 12)=ai (Cw a.qa v.F a.qc)/\eh X (Zd (w.1.size) 13)=ai (Cw a.i v.ms a.mc)/\eh X (Zd (w.1.size) 14)=ai (Zg v.L)/\eh X (Zd (w.1.size) 15)=ai (Zg v.K)/\eh X (Zd (w.1.size) 16)=ai (Zg v.ro)/\eh X (Zd d 0)=ai (Zg v.wd)/\eh X (Zd d 4)=ai (Zg r.E))
    (first
      |with_reducible exact F.o _ D0
      |with_reducible exact F.o _ i
      |with_reducible exact F.o _ o
      |with_reducible exact F.o _ B7)
    (first
      |(go_at_call 52;refine Calls.mono (zV wc.drew D0) ?_;rintro e w5 ⟨E,J,D,I,C,H,rfl,U,zK⟩;have i:bg wc.1.size wc w5:=D0.ag zK)
      |(go_at_call 69;refine Calls.mono (zU w5 E D C J I H (HL _ i) U) ?_;rintro e w6 ⟨bb,rfl,Y,zM⟩;have o:=i.ag (zM.ah i.size);clear U;obtain rfl:bb=ay:=Y.2 zI;clear Y)
      |(go_at_call 70;refine Calls.mono (yA w6 (HL _ o)) ?_;rintro e w7 ⟨cc,rfl,zJ,zX⟩;have B7:=o.ag (zX.ah o.size);obtain rfl:cc=ba:=(by cases cc with|false=>rfl|true=>exact absurd (zJ.1 rfl) zT);clear zJ))
   all_goals (go_wp2_with fail;go_meet;exact⟨rfl,B7⟩)
  clear M N Q R y4 y5 y6 y7 y8 y9 q t x y z A B;obtain⟨rfl,s⟩:=hcut;have V:bg w.1.size w _:=G.ag (s.ah G.size);go_wp2;refine Co (.tuple #[ea an,ec ba]) Fl ?_;exact⟨V,cr ⟨zH,rfl⟩⟩
 |false=>
  rw[hlog]at zG;have f:BR v.ss v.D=ay->False:=λh=>by rw[hlog]at h;cases h
  delta D4;go_in;go_wp2_with fail;rw[<-HW.o];refine zA.Ak ?_;rintro e w1 ⟨rfl,c⟩;replace c:=c.symm;subst c;go_wp2_with fail;refine zC.Ak ?_;rintro e w1 ⟨rfl,c⟩;replace c:=c.symm;subst c;go_wp2_with fail;refine zG.Ak ?_;rintro e w2 ⟨rfl,zE⟩;have U:=bW.ag (zE.ah bW.size);clear M N Q R y4 y5 y6 y7 y8 y9 q t x y z A B;go_wp2;refine Co (.tuple #[ea an,ec ba]) Fl ?_;exact⟨U,cr ⟨λ⟨r,h⟩=>f h.log,rfl⟩⟩
theorem IT{v:Vd}{a:Va}{w:Zh}(s:Bg w w.1.size a v)(q:DM v)(p:Env w):
 D4 63 #[ca (Xr v a)] w λe b=>Au (BY v) w b e:=by
 have⟨W,c⟩:=Du w (Xr v a) 34;obtain⟨b,t,f⟩:=(Av c).1,(Av c).2.2,Yw c;obtain⟨G,u,x,y,z,A,B,C,D,E,F,g,h,i,j,l,n,o⟩:=Yw (JP (s.U b) q (p.A b)),KL t;clear c t s p q;delta D4;go_in;go_upto_region 1 with fail;rw[<-f.o];clear f;go_wp2_with fail;refine G.Ak ?_;rintro e t ⟨c,⟨q,rfl⟩|⟨r,k,d,m,O,P,L,s,f,rfl,_⟩⟩
 .clear u x y z A B C D E F g h i j l n o;go_wp2;go_ret;exact Au.no q (b.ag (c.ah b.size))
 have p:Hid (BY v):=⟨r,f⟩;clear u x y z A B C D E F g h i j l n o f;go_wp2;go_ret;exact Au.yes p (b.ag (c.ah b.size))
def v0:Vd:=⟨0,0,[],[],0,0,0,0,[],[],[],0,[],[],0,0,0⟩
def IU(wd lim:Int)(ss tt:Zl)(r:Rs):Vd:=⟨wd,lim,ss,tt,wd,r.G,r.H,r.E,r.B,r.ps,r.ls,0,[],[],0,0,0⟩
def Gi(wd lim:Int)(ss tt:Zl)(c:Int)(v:Vd):Prop:=
 (¬((1<=wd/\wd<=8)/\(0<=lim/\lim<=1000000)/\BR ss tt=ay)/\c=1/\v=v0)\/
 (((1<=wd/\wd<=8)/\(0<=lim/\lim<=1000000)/\BR ss tt=ay)/\(((∃n,DP wd (ss++tt) n)/\c=2/\v=v0)\/(∃r,Cc wd r0 (ss++tt) r/\c=0/\v=IU wd lim ss tt r)))
theorem Gi.dq{d e:Zl}{b:Int}{v f:Vd}(h:Gi i a d e c v)(k:Gi i a d e b f):c=b/\v=f:=by
 rcases h with⟨j,rfl,rfl⟩|⟨g,h⟩<;>rcases k with⟨k1,rfl,rfl⟩|⟨g',k⟩
 .exact gA
 .exact gA
 .exact gA
 rcases h with⟨⟨n,h⟩,rfl,rfl⟩|⟨r,h,rfl,rfl⟩<;>rcases k with⟨⟨m,k⟩,rfl,rfl⟩|⟨q,k,rfl,rfl⟩
 .exact gA
 .exact absurd k (h.not g.1.1 g.1.2)
 .exact absurd h (k.not g.1.1 g.1.2)
 obtain rfl:=h.dq k;exact gA
theorem Ay.nil(w:Zh)(a:Nat):Ay w a Zb Zb Zb Zb Zb Zb Zb [] v0:=
 ⟨Ah.nil _ _,Ah.nil _ _,⟨rfl,⟨rfl,cr ⟨rfl,rfl⟩⟩,(λi k r h=>by cases i<;>cases h),⟨rfl,cr ⟨rfl,rfl⟩⟩,⟨rfl,cr ⟨rfl,rfl⟩⟩,nodup_nil⟩,Ah.nil _ _,Ah.nil _ _,nodup_nil⟩
def Agm(wd lim:Int)(ss tt:Zl)(w:Zh)(e:Ending)(w':Zh):Prop:=
 ∃(c:Int) (v:Vd) (S U T P L Q M:Value) (rs:Zj),Gi wd lim ss tt c v/\e=.returned (.tuple #[ca #[Zg v.wd,Zg v.J,S,U,Zg v.P,Zg v.G,Zg v.H,Zg v.E,T,P,L,Zg v.I,Q,M,Zg v.L,Zg v.K,Zg v.ro],Zg c])/\Ay w' w.1.size S U T P L Q M rs v/\Zz w w'
theorem OC(p q:Int)(a b:Zk)(c d:Nat)(f i:Zl){w:Zh}(o:Ad w w.1.size a f)(l:Ad w w.1.size b i)(hl:ed f<=1048576)(zM:ed i<=1048576)(t:∀s∈f,s.size<=1048576)(u:∀s∈i,s.size<=1048576)(z:Env w):
 D4 12 #[Zg p,Zg q,ca #[Cx a (ed f) c,Cx b (ed i) d]] w (Agm p q f i w):=by
 have⟨W,k⟩:=Ag ((w.alloc (bs #[Cw a f c,Cw b i d] 25)).alloc (bs Xp 34));obtain⟨K,zW,A⟩:=(AT k).1,(AT k).2.1,(AT k).2.2.1;have B:Aa W (w.1.size+1) Xo:=by have h1:=Aa.new (w.alloc (bs #[Cw a f c,Cw b i d] 25)) Xo 34;rw[Aq]at h1;rw[k];exact h1
 have HX:Hid (Aa W _ _):=(AT k).2.2.1;have U:Hid (Aa W (w.1.size+1) Xo):=B;have g:Hid (∀X,Zz w X->Ad X X.1.size a f/\Ad X X.1.size b i):=λX M=>⟨o.U M,l.U M⟩;obtain⟨HW,H,R,zA⟩:=Yw k,Yw (Ml p W),Yw (MS q W),Yw (EL c d (o.U K) (l.U K) hl zM t u);obtain⟨Y,Z⟩:=Aa.c2 A 0 1;clear k A B o l;by_cases hwd:1<=p/\p<=8
 case neg=>
  rw[decide_eq_false hwd]at H;have I:Hid (Gi p q f i 1 v0):=cr ⟨λh=>hwd h.1,rfl,rfl⟩;delta D4;go_in;go_wp2_with fail;rw[<-HW.o];refine H.Ak ?_;rintro e w1 ⟨rfl,k⟩;replace k:=k.symm;subst k;clear Y Z HX;have l:(Xp:Array Value).all (·.oneCell')=ay:=Ef;have u:W.there (w.1.size+1) 0 17:=(U.o).there;obtain⟨t,C,o⟩:=Yw (Zn l u),Ag (W.setCells (w.1.size+1) 0 Xo);have Q:Aa C (w.1.size+1) Xo:=by rw[o];exact(U.o).ax _ rfl
  have N:bg w.1.size w C:=(K).ag (by rw[o];exact(Ap _ _ _ _).A (K).size Yu);have F:=Yw o;clear l u o;go_wp2_with (refine wpList_store_mid rfl 34 _ _ rfl (w.1.size+1) 0 Xp rfl rfl t.2 Yr t.1 ?_);rw[<-F.o];refine bodyPost_ret (Dz results12 _ _ (w.1.size+1) Xo _ rfl rfl Q.range underlying34 rfl Yr) rfl ?_;exact⟨1,v0,_,_,_,_,_,_,_,[],I,rfl,Ay.nil _ _,N⟩
 rw[decide_eq_true hwd]at H;by_cases hlim:0<=q/\q<=1000000
 case neg=>
  rw[decide_eq_false hlim]at R;have I:Hid (Gi p q f i 1 v0):=cr ⟨λh=>hlim h.2.1,rfl,rfl⟩;delta D4;go_in;go_wp2_with fail;rw[<-HW.o];refine H.Ak ?_;rintro e w1 ⟨rfl,k⟩;replace k:=k.symm;subst k;go_wp2_with fail;refine R.Ak ?_;rintro e w1 ⟨rfl,k⟩;replace k:=k.symm;subst k;clear Y Z HX;have l:(Xp:Array Value).all (·.oneCell')=ay:=Ef;have u:W.there (w.1.size+1) 0 17:=(U.o).there;obtain⟨t,C,o⟩:=Yw (Zn l u),Ag (W.setCells (w.1.size+1) 0 Xo);have Q:Aa C (w.1.size+1) Xo:=by rw[o];exact(U.o).ax _ rfl
  have N:bg w.1.size w C:=(K).ag (by rw[o];exact(Ap _ _ _ _).A (K).size Yu);have F:=Yw o;clear l u o;go_wp2_with (refine wpList_store_mid rfl 34 _ _ rfl (w.1.size+1) 0 Xp rfl rfl t.2 Yr t.1 ?_);rw[<-F.o];refine bodyPost_ret (Dz results12 _ _ (w.1.size+1) Xo _ rfl rfl Q.range underlying34 rfl Yr) rfl ?_;exact⟨1,v0,_,_,_,_,_,_,_,[],I,rfl,Ay.nil _ _,N⟩
 rw[decide_eq_true hlim]at R;cases hlog:BR f i with
 |true=>
  rw[hlog]at zA;have zN:=Gr hlog;have zS:ed f<=4000:=by rw[Am]at zN;omega
  have zT:ed i<=4000:=by rw[Am]at zN;omega
  have HP:Hid (∀X,Zz w X->D4 48 #[Zg p,.func (.func 50) #[ca #[Cw a f c,Cw b i d]] #[]] X λe y=>Zz X y/\((∃n:Nat,DP p (f++i) n/\e=C1 (.tuple #[ea an,Zg n]))\/(∃r d m O P L E,Cc p r0 (f++i) r/\e=C1 (.tuple #[Yy d,Ze])/\Dr y E d m O P L p r.G r.H r.E r.B r.ps r.ls/\(X.1.size<=E/\E+4<=m)))):=λX M=>
   MR p 50 #[ca #[Cw a f c,Cw b i d]] #[] (f++i) hwd.1 hwd.2 Yv (λs k=>by rcases A5.1 k with h|h;exact t s h;exact u s h) (z.A M) (enters_of func50 Yr rfl) (λV k=>by
    have hb:=M.ag (k.ah M.size);have h1:=JD a b c d f i X.1.size V (((g X M).1).A k) (((g X M).2).A k) k.size Yo Yo;simpa using h1)
  have HG:=Yw (Za hwd (Za hlim hlog));clear z t u;delta D4;go_in;go_wp2_with fail;rw[<-HW.o];refine H.Ak ?_;rintro e w1 ⟨rfl,k⟩;replace k:=k.symm;subst k;go_wp2_with fail;refine R.Ak ?_;rintro e w1 ⟨rfl,k⟩;replace k:=k.symm;subst k;go_wp2_with fail;refine zA.Ak ?_;rintro e w2 ⟨rfl,l⟩;have z:=Aa.A HX l;have t:=Yw z;have u:Hid (Aa w2 (w.1.size+1) Xo):=Aa.A (v:=Ze) U l;have z2:w.1.size+2<=w2.1.size:=C8 l.size;have o:Hid (Zz w w2):=K.ag (l.ah K.size);clear Y Z H R zA l HW HX U;obtain⟨Y,Z⟩:=Aa.c2 z 0 1;clear z;go_wp2_with fail;refine(EG a b (ed f) (ed i) c d w2).ah ?_;rintro e w3 ⟨rfl,l⟩;have V:Hid (Aa w3 w.1.size [Cw a f c,Cw b i d]):=Aa.A t l;have s:Hid (Aa w3 (w.1.size+1) Xo):=Aa.A (v:=Ze) u l;have z3:=l.size;have D:Hid (Zz w w3):=o.ag (l.ah o.size);clear Y Z l t u o;go_wp2_with fail;refine(HP w3 D).ah ?_;rintro e z ⟨B,⟨n,l,rfl⟩|⟨r,dd,m,O,P,L,E,S,rfl,BK,x⟩⟩
  .have G:Hid (Aa z (w.1.size+1) Xo):=Aa.A (v:=Ze) s B;have A:Hid (Zz w z):=D.ag (B.ah D.size);have zU:0<(n:Int):=(by obtain⟨j,_,_,rfl,_⟩:=l;omega);have I:Hid (Gi p q f i 2 v0):=ct ⟨HG,cr ⟨⟨n,l⟩,rfl,rfl⟩⟩;clear l V s D HP g B;have l:(Xp:Array Value).all (·.oneCell')=ay:=Ef;have u:z.there (w.1.size+1) 0 17:=(G.o).there;obtain⟨t,C,o⟩:=Yw (Zn l u),Ag (z.setCells (w.1.size+1) 0 Xo);have Q:Aa C (w.1.size+1) Xo:=(by rw[o];exact(G.o).ax _ rfl);have N:bg w.1.size w C:=(A.o).ag (by rw[o];exact(Ap _ _ _ _).A (A.o).size Yu);have F:=Yw o;clear l u o;go_wp2_with (refine wpList_store_mid rfl 34 _ _ rfl (w.1.size+1) 0 Xp rfl rfl t.2 Yr t.1 ?_);rw[<-F.o];refine bodyPost_ret (Dz results12 _ _ (w.1.size+1) Xo _ rfl rfl Q.range underlying34 rfl Yr) rfl ?_;exact⟨2,v0,_,_,_,_,_,_,_,[],I,rfl,Ay.nil _ _,N⟩
  have zJ:Hid (Aa z w.1.size [Cw a f c,Cw b i d]):=Aa.A V B;have G:Hid (Aa z (w.1.size+1) Xo):=Aa.A (v:=Ze) s B;have A:Hid (Zz w z):=D.ag (B.ah D.size);have J:=S.ok (Fq hwd.1 hwd.2);have zG:Hid (Gi p q f i 0 (IU p q f i r)):=ct ⟨HG,ct ⟨r,S,rfl,rfl⟩⟩;have zI:Hid (∀X,Zz z X->D4 52 #[Yy dd] X λe y=>∃T P' L' rs,e=C1 (ca #[Zg p,Zg r.G,Zg r.H,Zg r.E,T,P',L'])/\Bc y X.1.size T P' L' rs r.B r.ps r.ls/\Zz X y):=λX M=>
   GH (BK.A M) J.bn.nd J.bn.sz J.bn.len J.np J.nl J.dz
  have HC:=Yw (GO c d (g z A).1 (g z A).2 hl zM);have z4:=B.size;obtain⟨Y,Z⟩:=Aa.c2 zJ 0 1;clear S BK J x B V s D HP g HG;go_wp2_with fail;refine HC.Ak ?_;rintro e w5 ⟨x,s,y,V,rfl,zF,M,zB,S⟩;clear Y Z HC;go_wp2_with fail;refine(zI w5 S).ah ?_;rintro e w6 ⟨T,P',L',rs,rfl,zC,J⟩;have z5:=S.size;have z6:=J.size;obtain⟨ta,tc,pa,pc,la,lc,rfl,rfl,rfl,_⟩:=zC.rows;have zE:Ay w6 z.1.size (Cw x f s) (Cw y i V) (Cw ta r.B tc) (Cw pa r.ps pc) (Cw la r.ls lc) Zb Zb rs (IU p q f i r):=
   Ay.of (Ah.own (Ai zF J)) (Ah.own (Ai M J)) (λg h1=>zB g h1) (n1:=w5.1.size) (λg D=>by rcases D with D|D;exact(Ab zF D).2;exact(Ab M D).2) zC z5 (n2:=w6.1.size) zC.dj (Ah.nil _ _) (Ah.nil _ _) (λg D=>by rcases D with D|D<;>cases D) z6 (λg D=>by cases D)
  have zH:Hid (Zz w w6):=(A.ag (S.ah A.size)).ag (J.ah (Zm A.size z5));have zK:Hid (Aa w6 (w.1.size+1) Xo):=Aa.A (v:=Ze) (Aa.A (v:=Ze) G S) J;have l:(#[Zg p,Zg q,Cw x f s,Cw y i V,Zg p,Zg r.G,Zg r.H,Zg r.E,Cw ta r.B tc,Cw pa r.ps pc,Cw la r.ls lc,Ze,Zb,Zb,Ze,Ze,Ze]:Array Value).all (·.oneCell')=ay:=Ef;have u:w6.there (w.1.size+1) 0 17:=zK.there;obtain⟨t,C,o⟩:=Yw (Zn l u),Ag (w6.setCells (w.1.size+1) 0 [Zg p,Zg q,Cw x f s,Cw y i V,Zg p,Zg r.G,Zg r.H,Zg r.E,Cw ta r.B tc,Cw pa r.ps pc,Cw la r.ls lc,Ze,Zb,Zb,Ze,Ze,Ze]);have Q:Aa C (w.1.size+1) [Zg p,Zg q,Cw x f s,Cw y i V,Zg p,Zg r.G,Zg r.H,Zg r.E,Cw ta r.B tc,Cw pa r.ps pc,Cw la r.ls lc,Ze,Zb,Zb,Ze,Ze,Ze]:=by rw[o];exact zK.ax _ rfl
  have t9:Tn [w.1.size+1] w6 C:=by rw[o];exact Ap _ _ _ _
  have N:bg w.1.size w C:=zH.ag (t9.A zH.size Yu);have zO:Hid (Ay C w.1.size (Cw x f s) (Cw y i V) (Cw ta r.B tc) (Cw pa r.ps pc) (Cw la r.ls lc) Zb Zb rs (IU p q f i r)):=(zE.stays t9 (λg D zP=>by have:=zE.lo g zP;simp at D;omega)).ah Yv;have F:=Yw o;clear l u o zE zC zF M zB S J t9 zI G zJ A;go_wp2_with (refine wpList_store_mid rfl 34 _ _ rfl (w.1.size+1) 0 #[Zg p,Zg q,Cw x f s,Cw y i V,Zg p,Zg r.G,Zg r.H,Zg r.E,Cw ta r.B tc,Cw pa r.ps pc,Cw la r.ls lc,Ze,Zb,Zb,Ze,Ze,Ze] rfl rfl t.2 Yr t.1 ?_);rw[<-F.o]
  refine bodyPost_ret (Dz results12 _ _ (w.1.size+1) [Zg p,Zg q,Cw x f s,Cw y i V,Zg p,Zg r.G,Zg r.H,Zg r.E,Cw ta r.B tc,Cw pa r.ps pc,Cw la r.ls lc,Ze,Zb,Zb,Ze,Ze,Ze] _ rfl rfl Q.range underlying34 rfl Yr) rfl ?_;exact⟨0,IU p q f i r,_,_,_,_,_,_,_,rs,zG,rfl,zO,N⟩
 |false=>
  rw[hlog]at zA;have I:Hid (Gi p q f i 1 v0):=cr ⟨λh=>by rw[hlog]at h;exact absurd h.2.2 Yu,rfl,rfl⟩;delta D4;go_in;go_wp2_with fail;rw[<-HW.o];refine H.Ak ?_;rintro e w1 ⟨rfl,k⟩;replace k:=k.symm;subst k;go_wp2_with fail;refine R.Ak ?_;rintro e w1 ⟨rfl,k⟩;replace k:=k.symm;subst k;go_wp2_with fail;refine zA.Ak ?_;rintro e z ⟨rfl,B⟩;have G:Hid (Aa z (w.1.size+1) Xo):=Aa.A (v:=Ze) U B;have A:Hid (Zz w z):=K.ag (B.ah K.size);clear Y Z B HX U;have l:(Xp:Array Value).all (·.oneCell')=ay:=Ef;have u:z.there (w.1.size+1) 0 17:=(G.o).there;obtain⟨t,C,o⟩:=Yw (Zn l u),Ag (z.setCells (w.1.size+1) 0 Xo);have Q:Aa C (w.1.size+1) Xo:=by rw[o];exact(G.o).ax _ rfl
  have N:bg w.1.size w C:=(A.o).ag (by rw[o];exact(Ap _ _ _ _).A (A.o).size Yu);have F:=Yw o;clear l u o;go_wp2_with (refine wpList_store_mid rfl 34 _ _ rfl (w.1.size+1) 0 Xp rfl rfl t.2 Yr t.1 ?_);rw[<-F.o];refine bodyPost_ret (Dz results12 _ _ (w.1.size+1) Xo _ rfl rfl Q.range underlying34 rfl Yr) rfl ?_;exact⟨1,v0,_,_,_,_,_,_,_,[],I,rfl,Ay.nil _ _,N⟩
theorem Ah.ji{w:Zh}{c:Nat}{a:Zk}{d:Zl}(h:Ah w b (Cx a n c) d):Ad w w.1.size a d:=by have⟨g,i,e,f⟩:=h.row;cases e;exact f
theorem TN{a b:Zl}(e:∀s∈a,s.size<=1048576)(f:∀s∈b,s.size<=1048576):ed (AX a b k)<=1048576/\∀s∈AX a b k,s.size<=1048576:=by
 unfold AX;split
 .next h=>
  have c:=Gr h;rw[Am]at c;refine⟨?_,λs d=> ?_⟩
  .rw[Am,Cl];omega
  rcases A5.1 d with h|h
  .exact e s h
  exact gG
 exact gA
theorem Abt{w:Zh}{u:Dg}{l:Zl}(h:w.ownsRow n 9 1 u (ed l) (l.map string)):∃a c,u=Cx a (ed l) c/\Ad w w.1.size a l/\(a=an->ed l=0/\c=0):=by
 obtain⟨a,c,rfl,b⟩:=(Ah.own h).row;refine⟨a,c,rfl,b,λe=> ?_⟩;subst e;rcases h.2 with⟨e,_⟩|⟨g,d,f,e,_⟩
 .injection e with _ e2 e3;exact⟨e2,e3⟩
 injection e with e1;cases e1
def BG:Zj:=[Ze,Ze,Zb,Zb,Ze,Ze,Ze,Ze,Zb,Zb,Zb,Ze,Zb,Zb,Ze,Ze,Ze]
structure Mz (base:Nat) (X:Zh) (n:Nat) (z:Kd×Value):Prop where
 row:X.ownsRow base 9 1 z.2 (ed z.1.C) (z.1.C.map Value.string)
 sm:z.1.sum.size<=8
 Y:z.1.Q.size<=10
 rl:ed z.1.C<=1
 rs:∀s∈z.1.C,s.size<=8
 bo:0<=z.1.born/\z.1.born<=n
structure MnI (w wr:Zh) (n:Nat) (T:Value) (zs:List (Kd×Value)):Prop where
 fy:Aa wr w.1.size z7
 box:Aa wr (w.1.size+1) [Zg 8,Ze,Ze,Zg n,T,Zb,Zb]
 ow:wr.ownsRow (w.1.size+2) 50 4 T (ed zs) (Af kC zs)
 zz:∀z∈zs,Mz (w.1.size+2) wr n z
 bl:bg w.1.size w wr
theorem Mz.A{w:Zh}{z:Kd×Value}(h:Mz base w n z)(a:Zz w X):Mz base X n z:=⟨Ai h.row a,h.sm,h.Y,h.rl,h.rs,h.bo⟩
theorem MnI.A{w wr:Zh}{b:List (Kd×Value)}(h:MnI w wr n T b)(a:Zz wr X):MnI w X n T b:=
 ⟨Aa.A h.fy a,Aa.A h.box a,Ai h.ow a,λz c=>(h.zz z c).A a,h.bl.ag (a.ah h.bl.size)⟩
structure KdW (k:Kd):Prop where
 s:k.sum.size<=8
 t:k.Q.size<=eo
 n:ed k.C<=1048576
 r:∀s∈k.C,s.size<=eo
 b:(Lit.int .i64 k.born).wf=ay
structure StW (ks:List Kd) (ps:List Pd) (ls:List Ld):Prop where
 k:∀k∈ks,KdW k
 kn:ed ks<=1048576
 p:∀p∈ps,p.name.size<=eo/\p.sum.size<=eo
 pn:ed ps<=1048576
 l:∀l∈ls,l.sum.size<=eo
 ln:ed ls<=1048576
theorem YU.w{b:C5}{ps:C7}{d:C6}(h:YU b ps d)(c:∀k∈b,ThB k):StW b ps d:=by have e:=h.n;exact⟨λk a=>⟨(c k a).2.2.2,h.k.Q k a,C8 (c k a).2.1,h.k.ref k a,h.b k a⟩,Yv,λp a=>⟨h.p.name p a,h.p.sum p a⟩,Yv,h.l.sum,Yv⟩
