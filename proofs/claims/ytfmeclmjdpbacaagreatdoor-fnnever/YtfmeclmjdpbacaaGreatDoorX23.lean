import Derived.Test.YtfmeclmjdpbacaaGreatDoorX21
import Derived.Test.YtfmeclmjdpbacaaGreatDoorX22
import Derived.Test.YtfmeclmjdpbacaaGreatDoorX11
import Derived.Test.YtfmeclmjdpbacaaGreatDoorX20
set_option maxRecDepth 100000
set_option maxHeartbeats 16000000
open Option renaming some->ai,none->an
open Bool renaming true->ay,false->ba
open Go.RowKit renaming Below->bg
open Go.Obj renaming cells->bs
open Go.Value renaming slice->bx,agg->ca
open Or renaming inl->cr,inr->ct
open List renaming length->ed,toArray->ee
open Go.World renaming cell?->eh,ownsRow->ej,setCell->el
namespace Go.Proofs.YtfmeclmjdpbacaaGreatDoor
open ChangeShapes WideShapes ChangeAt RowKit _root_.Go.Proofs.Tryz List World Value
variable{v:Vd}{r:Rs}{c p:Int}{a b j n d o B k f e m b1 b2 b3 b4 b5:Nat}{g h:Zk}{i l vs:Zj}{X w:Zh}{t:TypeId}{S U T P L Q M:Value}{V:List Nat}{s:Zi}
structure Ed where
 N:Int
 s:Zi
 T:Zi
 M:Int
 Y:Zi
 V:Zl
def Ed.ok(e:Ed)(wd:Int):Bool:=Ca e.N e.s e.T e.M e.Y e.V wd
def Ed.cf(e:Ed)(wd:Int):Zi:=Cs e.N e.s e.T e.M e.Y e.V wd
def Ed.no(e:Ed)(v:Vd)(c:Int)(a b:Zi):Prop:=Gh v.wd v.G v.H v.E v.B v.ps v.ls e.N e.s e.T e.M e.Y e.V c a b
def Ed.yes(e:Ed)(v:Vd)(r:Rs):Prop:=Db v.wd v.G v.H v.E v.B v.ps v.ls e.N e.s e.T e.M e.Y e.V r
def Ed.dt(e:Ed)(v:Vd)(r:Rs):Bool:=decide (e.N=1)&&decide (v.J<CS v.wd r.B)
def Ed.jb(e:Ed)(v:Vd)(r:Rs):Prop:=e.dt v r=ay
def Ed.held(e:Ed)(r:Rs):Zi:=if e.N=1 then r.sm else e.s
structure Dd where
 c:Int
 v:Vd
 s:Zi
 n:Int
 a:Zi
 b:Zi
def Ft(c:Int)(v:Vd)(a b:Zi):Dd:=⟨c,v,⟨#[]⟩,0,a,b⟩
noncomputable def doV (v:Vd) (e:Ed) (r:Rs):Vd:={v with D:=v.D++[e.cf v.wd],G:=r.G,H:=r.H,E:=r.E,B:=r.B,ps:=r.ps,ls:=r.ls,F:=shQ v.I r.B v.F v.ms (e.held r)}
noncomputable def dyes (v:Vd) (e:Ed) (r:Rs):Dd:=⟨0,doV v e r,r.sm,r.le,⟨#[]⟩,⟨#[]⟩⟩
def GZ(v:Vd)(e:Ed)(c:Int)(a b:Zi):Prop:=
 (e.ok v.wd=ba/\c=1/\a=⟨#[]⟩/\b=⟨#[]⟩)\/(e.ok v.wd=ay/\(e.no v c a b\/(a=⟨#[]⟩/\b=⟨#[]⟩/\∃r,e.yes v r/\((e.jb v r/\c=8)\/(¬e.jb v r/\ed v.ss+ed v.D=4000/\c=9)))))
def KN(v:Vd)(e:Ed)(r:Rs):Prop:=e.ok v.wd=ay/\e.yes v r/\¬e.jb v r/\¬ed v.ss+ed v.D=4000
def Ex(v:Vd)(e:Ed)(d:Dd):Prop:=(¬BY v/\d=Ft 1 v0 ⟨#[]⟩ ⟨#[]⟩)\/(BY v/\((∃c a b,GZ v e c a b/\d=Ft c v a b)\/∃r,KN v e r/\d=dyes v e r))
theorem Bo.fg(h:Bo v r):Gk v.wd v.G v.H v.E v.B v.ps v.ls:=by have a:Gk v.wd r.G r.H r.E r.B r.ps r.ls:=h.run.ok (Fq h.wd.1 h.wd.2);have⟨⟨_,b,c,d⟩,e,f,g⟩:=h.same;rw[b,c,d,e,f,g]at a;exact a
theorem GZ.code{e:Ed}{a b:Zi}(h:GZ v e c a b):c≠0:=by
 rcases h with⟨_,h,_⟩|⟨_,h|⟨_,_,r,_,⟨_,h⟩|⟨_,_,h⟩⟩⟩
 .omega
 .have:=Gh.code h;omega
 .omega
 omega
theorem GZ.dq(m:Bo v r){e:Ed}{j:Int}{a b g i:Zi}(h:GZ v e c a b)(k:GZ v e j g i):c=j/\a=g/\b=i:=by
 have f:=m.fg.bn.nd;rcases h with⟨d,rfl,rfl,rfl⟩|⟨d,h|⟨rfl,rfl,n,l,h⟩⟩<;>rcases k with⟨k1,rfl,rfl,rfl⟩|⟨k1,k|⟨rfl,rfl,r2,ky,k⟩⟩
 .exact gA
 .rw[d]at k1;cases k1
 .rw[d]at k1;cases k1
 .rw[d]at k1;cases k1
 .exact Gh.dq f h k
 .exact(Gh.not f h ky).elim
 .rw[d]at k1;cases k1
 .exact(Gh.not f k l).elim
 obtain rfl:=Db.dq l ky;rcases h with⟨h,rfl⟩|⟨h,_,rfl⟩<;>rcases k with⟨k,rfl⟩|⟨k,_,rfl⟩
 .exact gA
 .exact gA
 .exact gA
 exact gA
theorem GZ.not(g:Bo v r){e:Ed}{a b:Zi}(h:GZ v e c a b){n:Rs}(k:KN v e n):False:=by
 obtain⟨d,f,l,m⟩:=k;rcases h with⟨i,_⟩|⟨_,h|⟨_,_,o,j,h⟩⟩
 .rw[i]at d;cases d
 .exact Gh.not g.fg.bn.nd h f
 obtain rfl:=Db.dq j f;rcases h with⟨h,_⟩|⟨_,h,_⟩
 .exact l h
 exact m h
theorem Ex.dq{e:Ed}{d g:Dd}(h:Ex v e d)(k:Ex v e g):d=g:=by
 rcases h with⟨h,rfl⟩|⟨⟨r,h⟩,i⟩<;>rcases k with⟨k,rfl⟩|⟨k,kk⟩
 .rfl
 .exact gA
 .exact absurd ⟨r,h⟩ k
 rcases i with⟨c,a,b,f,rfl⟩|⟨j,f,rfl⟩<;>rcases kk with⟨c',a',b',k1,rfl⟩|⟨r2,k1,rfl⟩
 .obtain⟨rfl,rfl,rfl⟩:=f.dq h k1;rfl
 .exact(f.not h k1).elim
 .exact(k1.not h f).elim
 rw[Db.dq f.2.1 k1.2.1]
theorem Ed.dw{e:Ed}{b:Int}(h:e.ok b=ay):(e.cf b).size<=5000:=by
 obtain⟨_,_,p⟩:=FV h;unfold Ed.cf Cs;rw[if_pos (show Ca e.N e.s e.T e.M e.Y e.V b=ay from h)];show(ee (Dh e.N.toNat e.s e.T e.M e.Y e.V)).size<=5000;have d:=p.sum;have f:=p.name;have g:ed (if e.N.toNat=1 then Bu e.Y e.V else [])<=3000:=by
  split
  .next hk=>
   have a:=Bs (p.fh hk);have c:=a.bu;have i:=a.Q;rw[Bu,length_cons,Am,De];simp only[Array.length_toList];have j:e.Y.data.size=e.Y.size:=rfl;omega
  simp
 rw[Az];unfold Dh BK;simp only[Am,length_cons,length_nil,Array.length_toList];have a:e.s.data.size=e.s.size:=rfl;have c:e.T.data.size=e.T.size:=rfl;omega
def Ha(d:Dd)(S U T P L Q M:Value):Zj:=Zg d.c::(AV d.v S U T P L Q M++[.string d.s,Zg d.n,.string d.a,.string d.b])
def Cu:Zj:=[Ze,Ze,Ze,Zb,Zb,Ze,Ze,Ze,Ze,Zb,Zb,Zb,Ze,Zb,Zb,Ze,Ze,Ze,Zc,Ze,Zc,Zc]
theorem cell_of_block{W:Zh}(h:X.1[d]?=W.1[d]?)(j:Nat):eh X (Zd d j)=eh W (Zd d j):=by simp[cell?,h]
theorem Aa.ir(h:w.1[o]?=ai (bs (ee l) t (0,0))):Aa w o l:=λj v a=>by refine⟨?_,by simp[frozen?,h]⟩;simp[cell?,h];exact a
theorem Aa.fe:∀(vs l1 l2 l3:Zj) (w:Zh),Aa w B (l1++(l2++l3))->ed vs=ed l2->Aa (w.setCells B (ed l1) vs) B (l1++(vs++l3))
 |[],l1,[],l3,w,h,_=>h
 |v::r,l1,u::l2,l3,w,h,hl=>by have a:=h.set (ed l1) v;rw[show(l1++(u::l2++l3)).set (ed l1) v=(l1++[v])++(l2++l3) by simp]at a;have b:=Aa.fe r (l1++[v]) l2 l3 _ a gA;rw[Am,length_singleton,append_assoc,singleton_append,<-cons_append]at b;exact b
 |[],_,_::_,_,_,_,h=>by simp at h
 |_::_,_,[],_,_,_,h=>by simp at h
theorem Aa.du(a c d:Zj)(h:Aa w B (a++(c++d))):w.there B (ed a) (ed c):=λj b=>by have b:=h (ed a+j) _ (Zv Yt);exact⟨by rw[b.1];rfl,b.2⟩
theorem Aea{u v:Dg}(c:eh X (Zd b 0)=ai u)(d:eh X (Zd b 1)=ai v):X.rangeAt b 0 [u,v]:=λj x a=>by
 match j with
 |0=>cases a;exact c
 |1=>cases a;exact d
 |_+2=>simp at a
theorem Hs{a c:Zh}{z:Dg}{cs:Zj}(g:Aa X k (.int .i32 1::l))(h:Aa X b (z::i))(o:ed cs=ed (z::i))(m:k≠b)(f:a=X.setCells b 0 cs)(j:c=el a (Zd k 0) (.int .i32 0)):
 eh a (Zd k 0)=ai (.int .i32 1)/\a.frozen? ⟨k,0,an⟩=ba/\Aa c b cs/\Tn [b,k] X c:=by
 have e:Tn [b] X a:=by rw[f];exact Ap _ _ _ _
 have d:Tn [k] a c:=by rw[j];exact Tn.set _ _ _ _ Yu
 have r:Aa a b cs:=by rw[f];exact h.ax cs o
 have p:=Aa.same g (e.block _ g.lt (by simp;exact m));obtain⟨q,n⟩:=p 0 _ rfl;exact⟨q,n,Aa.same r (d.block _ (Zr h.lt e.size) Yt),(e.ah Yu).ag (d.ah Yu)⟩
theorem Ay.apart{c:Nat}(x:Ah w c S v.ss)(y:Ah w c U v.D)(n:∀g,Aj S=ai g->Aj U≠ai g)(j:Bc w c T P L i v.B v.ps v.ls)(t:Ah w c Q v.F)(r:Ah w c M v.ms)(l:∀g,Aj Q=ai g->Aj M≠ai g)(z:∀g,Aj S=ai g\/Aj U=ai g->g∉BJ T P L i)(p:∀g,Aj Q=ai g\/Aj M=ai g->g∉BJ T P L i)(A:∀g d,Aj S=ai g\/Aj U=ai g->Aj Q=ai d\/Aj M=ai d->g≠d):Ay w c S U T P L Q M i v:=by
 refine⟨x,y,j,t,r,?_⟩;have k:=j.nd;rw[Ho]at k;unfold DC;generalize BJ T P L i=B at *
 generalize Aj S=s at *
 generalize Aj U=u at *
 generalize Aj Q=q at *
 generalize Aj M=m at *
 have h:∀o:Option Nat,o.toList.Nodup:=gG;simp only[nodup_append,A5,A6];refine⟨⟨h _,h _,λa f b d e=>n a f (e▸d)⟩,⟨k,⟨h _,h _,λa f b d e=>l a f (e▸d)⟩,λa f b d e=>p b d (e▸f)⟩,λa f b d e=> ?_⟩;rcases d with d|d
 .exact gA
 exact gG
theorem Sh{a b c:Zh}(d:Tn [] a b)(e:Tn V b c):Tn V a c:=(d.ah Yu).ag e
def MT(v:Vd)(et:Zi)(n:Nat)(X:Zh)(sa:Zk)(sn sc:Nat)(ua:Zk)(un uc:Nat)(c:Int):Prop:=
 (ed v.ss+ed v.D=4000/\(c==(0:Int))=ba)\/(¬ed v.ss+ed v.D=4000/\c=0/\sn=ed v.ss/\un=ed (v.D++[et])/\Ah X n (bx sa sn sc) v.ss/\Ah X n (bx ua un uc) (v.D++[et])/\∀g,Aj (bx sa sn sc)=ai g->Aj (bx ua un uc)≠ai g)
theorem VB{b:Zh}{q:Zi}{d:Zk}{i:Zk}(A:Aa X a [Zb,Zb])(h:Zz b X)(z:b.1.size<=a)(B:a<n)(r:b.1.size<=n)(m:MT v q n X d f e i k j c):
 Hid (Aa (X.setCells a 0 [Cx d f e,Cx i k j]) a [Cx d f e,Cx i k j]/\b.1.size<=a/\Zz b (X.setCells a 0 [Cx d f e,Cx i k j])/\MT v q b.1.size (X.setCells a 0 [Cx d f e,Cx i k j]) d f e i k j c):=by
 have t:=Ap a [Cx d f e,Cx i k j] 0 X;refine⟨A.ax _ rfl,z,h.ag (t.A h.size Yt),?_⟩;rcases m with m|⟨s,u,w,x,o,p,y⟩
 .exact cr m
 exact ct ⟨s,u,w,x,(o.ah r).O t (λg l=>by have:=(o.S l).1;simp;omega),(p.ah r).O t (λg l=>by have:=(p.S l).1;simp;omega),y⟩
theorem Abu{k a:Zh}{m:Zi}{d:Zk}{i:Nat}(h:Zz k a)(o:k.1.size<=n)(l:MT v m n a d f e g j i c):
 Hid (Aa ((a.alloc (bs #[Zb,Zb] 25)).setCells a.1.size 0 [Cx d f e,Cx g j i]) a.1.size [Cx d f e,Cx g j i]/\k.1.size<=a.1.size/\Zz k ((a.alloc (bs #[Zb,Zb] 25)).setCells a.1.size 0 [Cx d f e,Cx g j i])/\MT v m k.1.size ((a.alloc (bs #[Zb,Zb] 25)).setCells a.1.size 0 [Cx d f e,Cx g j i]) d f e g j i c):=by
 obtain⟨x,b,_⟩:=boxed (X:=a) (cs:=[Cx d f e,Cx g j i]) (z:=[Zb,Zb]) (T:=25) rfl;refine⟨x,h.size,h.ag (b.ah h.size),?_⟩;rcases l with l|⟨p,q,r,s,t,u,w⟩
 .exact cr l
 exact ct ⟨p,q,r,s,(t.ah o).A b,(u.ah o).A b,w⟩
theorem Md{a:Zi}(h:¬a=⟨#[]⟩):a.toList.isEmpty=ba:=by
 cases e:a.toList with
 |nil=>exact absurd (toList_inj (b:=⟨#[]⟩) (by rw[e];simp)) h
 |cons x l=>rfl
theorem QG(b:Nat)(p q:Zi)(w:Zh)(c:eh w (Zd b 0)=ai (C0 p))(d:eh w (Zd b 1)=ai (C0 q)):
 D4 141 #[Yz b 2 2] w λo a=>o=C1 (C0 (if p=⟨#[]⟩then q else p))/\a=w:=by
 delta D4;go_in;go_wp2
 go_loop [8] (λi=>i=Zg 0\/(i=Zg 1/\p=⟨#[]⟩)\/(i=Zg 2/\p=⟨#[]⟩/\q=⟨#[]⟩)) (λi=>2 -(intOf i).toNat)
 case atStart=>exact cr rfl
 rcases hrel with rfl|⟨rfl,rfl⟩|⟨rfl,rfl,rfl⟩
 .by_cases hp:p=⟨#[]⟩
  .subst hp;go_wp2;exact⟨Yu,by simp[intOf]⟩
  have a:=Md hp;go_wp2;go_ret;simp
 .by_cases hq:q=⟨#[]⟩
  .subst hq;go_wp2;exact⟨Yu,by simp[intOf]⟩
  have a:=Md hq;go_wp2;go_ret;simp
 go_wp2;go_ret;simp
def QH(wd:Int)(ks:List Kd):Prop:=∀k∈ks,AL k.Q k.C wd=ay
theorem QH.step{g f b:Int}{n:C5}{w:C7}{v:C6}{m:Int}{o:Zi}{i:Int}{d:Zi}{c:Zl}(h:QH g n)(q:Ca m s o i d c g=ay)(j:Db g p f b n w v m s o i d c r):QH g r.B:=by
 have⟨D,E,e⟩:=FV q;rcases j with⟨rfl,_,u,t,z,A,j,rfl⟩|⟨_,_,l,rfl⟩|⟨_,_,rfl⟩|⟨_,_,u,t,rfl⟩|⟨_,_,rfl⟩|⟨_,C,rfl⟩|⟨_,_,_,rfl⟩
 .rcases j with⟨_,_,_,_,rfl,rfl⟩|⟨y,x,B,rfl,rfl⟩
  .exact h
  intro k a;rcases A5.1 (Ee.1 a)with a|a
  .exact h k a
  rw[mem_singleton]at a;subst a;exact e.fh rfl
 .exact h
 .exact h
 .exact h
 .exact h
 .exact h
 exact λk a=>h k (filter_sublist.subset a)
theorem Cc.tok{a:Int}:∀{xs:Zl} {r r':Rs},Cc a r xs r'->QH a r.B->QH a r'.B
 |[],r,r',h,hr=>by obtain rfl:r'=r:=h;exact hr
 |x::xs,r,r',h,hr=>by obtain⟨d,b,c⟩:=h;exact Cc.tok c (hr.step (GJ b.1).1 b.2)
theorem Bo.tok(h:Bo v r):QH v.wd v.B:=by have a:=h.run.tok (by intro k b;cases b);rwa[h.same.2.1]at a
def Fy(w:Zh)(lo:Nat)(a:Zk)(ss:Zl):Prop:=
 ss=[]\/∃b off,a=ai ⟨b,off,an⟩/\b<lo/\(∃cur,w.1[b]?=ai (bs cur 9))/\∀i s,ss[i]?=ai s->eh w (Zd b (off+i))=ai (.string s)
theorem Fy.A{j:Zh}{a:Zk}{g:Zl}(h:Fy w e a g)(f:bg e w j):Fy j e a g:=by
 rcases h with h|⟨b,c,l,d,⟨k,m⟩,o⟩
 .exact cr h
 exact ct ⟨b,c,l,d,⟨k,(f.block b d).ag m⟩,λi s n=>(f.cell (p:=⟨b,c+i,an⟩) d).ag (o i s n)⟩
theorem Fy.row{c:Nat}{a:Zk}{d:Zl}(h:Fy w c a d)(i:c<=w.1.size):Ad w w.1.size a d:=by
 rcases h with h|⟨b,e,f,g,_,j⟩
 .exact cr h
 exact ct ⟨b,e,f,Zr g i,j⟩
theorem Fy.bk{c:Nat}{a:Zk}{d:Zl}(h:Fy w c a d)(k:c<=w.1.size)(f:∀b∈V,c<=b):En w 0 V a d:=by
 rcases h with h|⟨b,e,g,i,j,l⟩
 .exact cr h
 exact ct ⟨b,e,g,Zr i k,λh=>C8 (f b h),ct ⟨Aw _,j⟩,l⟩
theorem Dr.zero{V:Zh}{O:Dg}{g a:Int}{k:C5}{o:C7}{l:C6}(h:Dr V e d m O P L p g c a k o l)(G:e+4<=m):Dr V 0 d m O P L p g c a k o l:=by
 have⟨n,f,r,t,v⟩:=h.map;refine⟨h.box,⟨n,f,r,t,λs i=> ?_⟩,h.ord.ah (Aw _),h.co.ah (Aw _),h.di.ah (Aw _),Aw _,Aw _,h.ap⟩;rcases v s i with h|⟨u,E,F,B,C,D,j⟩
 .exact cr h
 refine ct ⟨u,E,F,B,C,D,?_⟩;rcases j with j|⟨b,q,w,x,A,i,y⟩
 .exact cr j
 refine ct ⟨b,q,w,x,A,ct ⟨Aw _,?_⟩,y⟩;rcases i with⟨_,I,z,H⟩|⟨_,i⟩
 .simp[vB]at z;omega
 exact i
theorem Ka.has{a:Int}{Z:Zh}(h:Ka 0 d m a r X)(b:∀k∈r.B,(k.sum.size:Int)=a)(g:Z.1[m]?=X.1[m]?)(s:Zi):YT Z a m r.B s:=by obtain⟨O,P,L,h⟩:=h;have⟨n,f,i,c,e⟩:=h.map;exact Kl f s (c.same g) e.holds b
theorem Ka.O{f:Int}{c:Zh}{R:Nat}(h:Ka 0 d m f r X)(g:R≠d)(a:X.1.size<=R\/∃b,X.1[R]?=ai (bs b 81))(e:Tn [R] X c):Ka 0 d m f r c:=by
 rcases a with a|⟨b,a⟩
 .obtain⟨O,P,L,h⟩:=h;exact⟨O,P,L,h.A (e.A (Zx) Yt)⟩
 exact h.stays a (Aw _) g e
def dL(d:Dd)(vs:Zj):Zj:=Zg d.c::(vs++[.string d.s,Zg d.n,.string d.a,.string d.b])
theorem Aff{d:Dd}(h:Aa X b (dL d vs))(a:ed vs=17):eh X (Zd b 0)=ai (Zg d.c)/\eh X (Zd b 18)=ai (C0 d.s)/\eh X (Zd b 19)=ai (Zg d.n)/\eh X (Zd b 20)=ai (C0 d.a)/\eh X (Zd b 21)=ai (C0 d.b)/\X.rangeAt b 1 vs:=by
 have e:∀j u,[C0 d.s,Zg d.n,C0 d.a,C0 d.b][j]?=ai u->eh X (Zd b (18+j))=ai u:=λj u c=>(h (18+j) u (by
  unfold dL;rw[show 18+j=(17+j)+1 by omega,getElem?_cons_succ,getElem?_append_right Yv,a,show 17+j -17=j by omega];exact c)).1
 exact⟨(h 0 _ rfl).1,e 0 _ rfl,e 1 _ rfl,e 2 _ rfl,e 3 _ rfl,Aa.fx [Zg d.c] vs _ h⟩
theorem KO{d:Dd}(h:ed vs=17/\∀u∈vs,u.oneCell'=ay):ed (dL d vs)=22/\∀u∈dL d vs,u.oneCell'=ay:=by
 refine⟨by simp[dL,h.1],λu a=> ?_⟩;simp only[dL,Bh,A5,not_mem_nil,or_false]at a;rcases a with rfl|a|rfl|rfl|rfl|rfl
 .rfl
 .exact h.2 u a
 .rfl
 .rfl
 .rfl
 rfl
def GV(v:Vd)(e:Ed)(w:Zh)(o:Ending)(w':Zh):Prop:=
 ∃d S U T P L Q M rs,Ex v e d/\o=.returned (ca (ee (Ha d S U T P L Q M)))/\Ay w' w.1.size S U T P L Q M rs d.v/\Zz w w'
def TO(v:Vd)(e:Ed)(lo:Nat)(w:Zh)(o:Ending)(w':Zh):Prop:=
 bg lo w w'/\((∃c p q,GZ v e c p q/\o=.returned (ca #[Zg c,Ze,Ze,Zb,Zb,Ze,Ze,Ze,Ze,Zb,Zb,Zb,Ze,Zb,Zb,Ze,Ze,Ze,Zc,Ze,.string p,.string q]))\/(∃r S U T P L Q M rs,KN v e r/\o=.returned (ca (ee (Ha (dyes v e r) S U T P L Q M)))/\Ay w' lo S U T P L Q M rs (doV v e r)))
theorem Jt{c:Zj}{d:Dd}(h:Ay X b S U T P L Q M c d.v):ed (Ha d S U T P L Q M)=22/\∀u∈Ha d S U T P L Q M,u.oneCell'=ay:=by have⟨a,h,_⟩:=h.io;exact KO (vs:=AV d.v S U T P L Q M) ⟨rfl,by rw[h];simp[AV,oneCell']⟩
theorem TO.form{e:Ed}{f:Zh}{o:Ending}(h:TO v e a w o f):bg a w f/\∃(c:Int) (zs tl:Zj),o=C1 (ca (ee (Zg c::(zs++tl))))/\ed zs=17/\ed tl=4/\(∀u∈Zg c::(zs++tl),u.oneCell'=ay)/\((∃p q,GZ v e c p q/\tl=[Zc,Ze,C0 p,C0 q])\/(c=0/\∃r S U T P L Q M b,KN v e r/\Zg c::(zs++tl)=Ha (dyes v e r) S U T P L Q M/\Ay f a S U T P L Q M b (doV v e r))):=by
 obtain⟨i,⟨c,p,q,h,rfl⟩|⟨r,S,U,T,P,L,Q,M,b,h,rfl,g⟩⟩:=h
 .exact⟨i,c,Xo,[Zc,Ze,C0 p,C0 q],rfl,rfl,rfl,by simp[oneCell'],cr ⟨p,q,h,rfl⟩⟩
 exact⟨i,0,AV (doV v e r) S U T P L Q M,[C0 r.sm,Zg r.le,Zc,Zc],rfl,rfl,rfl,(Jt (d:=dyes v e r) g).2,ct ⟨rfl,r,S,U,T,P,L,Q,M,b,h,rfl,g⟩⟩
theorem VC(v:Vd)(e:Ed)(s:Dg)(m:Zj)(gf:Nat)(rv:Dg)(ra:Zk)(rc:Nat)(Dk:Nat->Nat->Zh->Prop)(w:Zh)(G:ed (s::m)=17)(eg:∀args X,(callFunc gf args).run prog X=.ok (.enter gf args) X)(y:∀X,Zz w X->D4 33 #[ca (ee (s::m))] X λo d=>Zz X d/\((¬BY v/\o=C1 (.tuple #[.pointer an,.bool ba]))\/(BY v/\∃k,o=C1 (.tuple #[Yy k,.bool ay])/\Dk X.1.size k d)))(B:∀X,Zz w X->D4 gf #[rv] X λo d=>o=C1 (ca (Ye e.N e.s e.T e.M e.Y ra (ed e.V) rc))/\Zz X d)(g:∀f k X d,Dk f k X->Zz X d->Dk f k d)(A:∀f k X,w.1.size<=f->BY v->Dk f k X->Zz w X->D4 96 #[Yy k,ca (Ye e.N e.s e.T e.M e.Y ra (ed e.V) rc)] X (TO v e f X))(l:BY v->∀X,Zz w X->D4 64 #[ca (ee (s::m))] X λo d=>∃(S U T P L Q M:Dg) (rs:Zj),o=C1 (ca (ee (AV v S U T P L Q M)))/\Ay d X.1.size S U T P L Q M rs v/\Zz X d):
 D4 54 #[ca (ee (s::m)),.func (.func gf) #[rv] #[]] w (GV v e w):=by
 have⟨W,d⟩:=Ag ((w.alloc (bs (ee (s::m)) 34)).alloc (bs Xn 62));have i:=(AT d).1;have zW:=(AT d).2.1;have n:Hid (Aa W w.1.size (s::m)/\Aa W (w.1.size+1) Cu):=⟨(AT d).2.2.1,(AT (k:=Cu) d).2.2.2⟩;have H:=Yw i;have zK:Hid (ed (s::m)=17):=G;obtain⟨C,F,t,E,HC,f⟩:=Yw y,Yw B,Yw g,Yw A,Yw l,Yw d;clear d y B g A l G i;delta D4;go_in;go_upto_region 1 with fail;rw[<-f.o];clear f;go_wp2_with (refine wpList_load_mid rfl 34 _ rfl w.1.size 0 rfl (s::m) _ n.1.range underlying34 rfl (by rw[zK.o];kernel_rfl) ?_);refine(C W H).ah ?_;rintro o w1 ⟨d,⟨g,rfl⟩|⟨i,k,rfl,A⟩⟩
 .obtain⟨l,y,B,f⟩:=H.ag (d.ah H.size),Aa.A (v:=Ze) n.2 d,Ag (w1.setCells (w.1.size+1) 0 (Xm 1));have J:Aa B (w.1.size+1) (Xm 1):=by rw[f];exact y.ax _ rfl
  have zO:Hid (Zz w B):=l.ag (by rw[f];exact(Ap _ _ _ _).A l.size Yu);obtain⟨zJ,N,zA,K⟩:=Yw (Zn (show((Xl 1):Array Value).all (·.oneCell')=ay by simp[oneCell']) y.there),Yw J,Yw g,Yw f;clear f J g y l C F t E HC n H d;go_wp2_with (refine wpList_store_mid rfl 62 _ _ rfl (w.1.size+1) 0 (Xl 1) rfl rfl zJ.2 Yr zJ.1 ?_);rw[<-K.o];refine bodyPost_ret (AM results54 _ _ (w.1.size+1) (Xm 1) _ rfl (Aa.range N) underlying62 rfl Yr) rfl ?_;exact⟨Ft 1 v0 ⟨#[]⟩ ⟨#[]⟩,Zb,Zb,Zb,Zb,Zb,Zb,Zb,[],cr ⟨zA,rfl⟩,rfl,Ay.nil _ _,zO⟩
 have z1:=d.size;have y:Hid (Aa w1 w.1.size (s::m)/\Aa w1 (w.1.size+1) Cu):=⟨Aa.A n.1 d,Aa.A (v:=Ze) n.2 d⟩;have l:Hid (Zz w w1):=H.ag (d.ah H.size);have HY:=Yw i;have g:=Yw A;clear d i A n C;go_wp2_with fail;refine(F w1 l).ah ?_;rintro o w2 ⟨rfl,d⟩;have z2:=d.size;have a:Hid (Aa w2 w.1.size (s::m)/\Aa w2 (w.1.size+1) Cu):=⟨Aa.A y.1 d,Aa.A (v:=Ze) y.2 d⟩;have Z:Hid (Zz w w2):=l.ag (d.ah l.size);have p:=Yw (E W.1.size k w2 H.size HY (t _ _ _ _ g d) Z);clear d F t g E y l;go_wp2_with fail;refine p.Ak ?_;intro o d I;obtain⟨G,c,zs,tl,rfl,j,V,y,i⟩:=I.form;have z3:=G.size;have⟨D,C⟩:∃D:Zj,D=Zg c::(zs++tl):=⟨_,rfl⟩;have t:ed D=22:=by rw[C];simp[j,V]
 have r:D[0]?=ai (Zg c):=by rw[C];rfl
 rw[<-C]at y |-;have⟨A,h⟩:=Ag ((d.alloc (bs Xn 62)).setCells d.1.size 0 (ee D).toList);have F:=boxed (X:=d) (cs:=D) (z:=Cu) (T:=62) (by rw[t];rfl);have e4:A=(d.alloc (bs (ee Cu) 62)).setCells d.1.size 0 D:=h;rw[<-e4]at F;obtain⟨X,R,z4⟩:=F;have l:Hid ((d.alloc (bs Xn 62)).there d.1.size 0 (ee D).size/\ed D=22/\∀x∈D,x.oneCell'=ay):=⟨by rw[show (ee D).size=22 from by rw[Az];exact t];exact(Aa.new d Cu 62).there,t,y⟩;have b:=Yw (Za (Aa.same a.1 (G.block _ Yv)) (Aa.same a.2 (G.block _ Yv)));have E:Hid (Aa A w.1.size (s::m)/\Aa A (w.1.size+1) Cu/\Aa A d.1.size D):=⟨Aa.A b.1 R,Aa.A (v:=Ze) b.2 R,X⟩;have u:bg w.1.size w d:=Z.ag (G.ah H.size);have g:Hid (Zz w A/\Zz d A/\w.1.size+2<=d.1.size):=⟨u.ag (R.ah u.size),R,Yv⟩;obtain⟨⟨u0,_⟩,n,O,q⟩:=X 0 _ r,Yw (Zn C (Zn j V)),Yw i,Yw h;have zT:W.1.size=w.1.size+2:=zW;clear h e4 X R u I G C t r j V y i a b Z p;go_upto_region 5 with(refine wpList_store_mid rfl 62 _ _ rfl d.1.size 0 (ee D) rfl rfl l.1 (by rw[Az,l.2.1];kernel_rfl) (all_oneCell_toArray l.2.2) ?_);rw[<-q.o];clear q;by_cases hc:c=0
 .subst hc;have⟨B,f⟩:=Ag (A.setCells (w.1.size+1) 0 (ee D).toList);have t9:Tn [w.1.size+1] A B:=by rw[f];exact Ap _ _ _ _
  have J:Aa B (w.1.size+1) D:=by rw[f];exact E.2.1.ax D (by rw[l.2.1];rfl)
  have C:Hid (A.there (w.1.size+1) 0 (ee D).size):=by show A.there (w.1.size+1) 0 (ee D).size;rw[show (ee D).size=22 from by rw[Az];exact l.2.1];exact E.2.1.there
  have G:Hid (GV v e w (.returned (ca (ee D))) B):=by
   rcases O.o with⟨p,q,hn,_⟩|⟨_,r,S,U,T,P,L,Q,M,rs,hy,hd,ha⟩
   .exact absurd rfl hn.code
   refine⟨dyes v e r,S,U,T,P,L,Q,M,rs,ct ⟨HY,ct ⟨r,hy,rfl⟩⟩,by rw[n.1,hd],?_,g.1.ag (t9.A g.1.size Yu)⟩;exact((ha.A g.2.1).stays t9 (λb F zG=>by have:=(ha.A g.2.1).lo b zG;simp at F;omega)).ah Yv
  have N:=Yw J;have K:=Yw f;clear f t9 J O n HC HY;go_wp2_with (first
   |refine wpList_load_mid rfl 62 _ rfl d.1.size 0 rfl D _ E.2.2.range underlying62 rfl (by rw[l.2.1];kernel_rfl) ?_
   |refine wpList_store_mid rfl 62 _ _ rfl (w.1.size+1) 0 (ee D) rfl rfl C (by rw[Az,l.2.1];kernel_rfl) (all_oneCell_toArray l.2.2) ?_)
  rw[<-K.o];exact bodyPost_ret (AM results54 _ _ (w.1.size+1) D _ rfl (Aa.range N) underlying62 rfl (by rw[l.2.1];kernel_rfl)) rfl G
 have zS:(c==0)=ba:=C9 hc;have zA:Hid (∃p q,GZ v e c p q/\tl=[Zc,Ze,C0 p,C0 q]):=by
  rcases O.o with h|⟨h,_⟩
  .exact h
  exact absurd h hc
 clear hc O;go_wp2_with (refine wpList_load_mid rfl 34 _ rfl w.1.size 0 rfl (s::m) _ E.1.range underlying34 rfl (by rw[zK.o];kernel_rfl) ?_);refine(HC HY A g.1).ah ?_;rintro o X ⟨S,U,T,P,L,Q,M,rs,rfl,zC,R⟩;obtain⟨z5,y,x⟩:=R.size,Ag (AV v S U T P L Q M);have Z:ed y=17:=by rw[x];rfl
 have zH:∀u∈y,u.oneCell'=ay:=by have⟨a,h,_⟩:=zC.io;rw[x,h];simp[AV,oneCell']
 rw[<-x];have x5:Aa X d.1.size ([Zg c]++(zs++tl)):=by have h:=E.2.2;rw[n.1]at h;exact Aa.A h R
 have⟨I,zB⟩:=Ag (X.setCells d.1.size 1 (ee y).toList);have t6:Tn [d.1.size] X I:=by rw[zB];exact Ap _ _ _ _
 have x6:Aa I d.1.size (Zg c::(y++tl)):=by rw[zB];exact Aa.fe y [Zg c] zs tl X x5 (by rw[Z,n.2.1])
 have zN:X.there d.1.size 1 (ee y).size:=λj i=>by rw[Az,Z]at i;have h1:=x5 (1+j) _ (Zv (by simp[n.2.1,n.2.2];omega));exact⟨by rw[h1.1];rfl,h1.2⟩
 have zF:=Yw (Za zN (Za Z zH));have⟨i,O⟩:∃i:Zj,i=Zg c::(y++tl):=⟨_,rfl⟩;have t:ed i=22:=by rw[O];simp[Z,n.2.2]
 have zM:∀u∈i,u.oneCell'=ay:=λu j=>by
  have h1:=l.2.2 u;rw[n.1]at h1;rw[O]at j;simp only[Bh,A5]at j h1;rcases j with rfl|j|j
  .rfl
  .exact zH u j
  exact h1 (ct (ct j))
 rw[<-O]at x6;have zI:=Aa.A (v:=Ze) E.2.1 R;have zE:Aa I (w.1.size+1) Cu:=Aa.same zI (t6.block _ zI.lt (by have:=g.2.2;simp;omega));obtain⟨zP,B,f⟩:=Yw (Za x6 zE),Ag (I.setCells (w.1.size+1) 0 (ee i).toList);have t9:Tn [w.1.size+1] I B:=by rw[f];exact Ap _ _ _ _
 have J:Aa B (w.1.size+1) i:=by rw[f];exact zE.ax i (by rw[t];rfl)
 have C:Hid (I.there (w.1.size+1) 0 (ee i).size/\ed i=22/\∀u∈i,u.oneCell'=ay):=⟨by rw[show (ee i).size=22 from by rw[Az];exact t];exact zE.there,t,zM⟩;have u:Tn [d.1.size,w.1.size+1] X B:=(t6.ah Yu).ag (t9.ah Yu);have G:Hid (GV v e w (.returned (ca (ee i))) B):=by
  have⟨p,q,hn,V⟩:=zA.o;have F:=g.1.ag (R.ah g.1.size);refine⟨Ft c v p q,S,U,T,P,L,Q,M,rs,ct ⟨HY,cr ⟨c,p,q,hn,rfl⟩⟩,by rw[O,V,x];rfl,?_,F.ag (u.A F.size (by have:=g.2.2;simp;omega))⟩;exact(zC.stays u (λb F zG=>by have:=zC.lo b zG;have:=g.2.2;have:=g.2.1.size;simp at F;omega)).ah g.1.size
 have N:=Yw J;have b:=Yw zB;have K:=Yw f;clear zB f t6 t9 u x5 x6 J zI zE zN Z zH x O t zM zC R zA n HC HY E l;go_upto_region 7 with(refine wpList_store_mid rfl 34 _ _ rfl d.1.size 1 (ee y) rfl rfl zF.1 (by rw[Az,zF.2.1];kernel_rfl) (all_oneCell_toArray zF.2.2) ?_);rw[<-b.o];clear b;go_wp2_with (first
  |refine wpList_load_mid rfl 62 _ rfl d.1.size 0 rfl i _ zP.1.range underlying62 rfl (by rw[C.2.1];kernel_rfl) ?_
  |refine wpList_store_mid rfl 62 _ _ rfl (w.1.size+1) 0 (ee i) rfl rfl C.1 (by rw[Az,C.2.1];kernel_rfl) (all_oneCell_toArray C.2.2) ?_)
 rw[<-K.o];exact bodyPost_ret (AM results54 _ _ (w.1.size+1) i _ rfl (Aa.range N) underlying62 rfl (by rw[C.2.1];kernel_rfl)) rfl G
theorem Aa.gy(h:Aa X b l)(c:ed l=n+1):b<X.1.size:=by
 cases l with
 |nil=>simp at c
 |cons a l=>exact h.lt
theorem Pq{d:Dd}{a:Zj}(h:Aa X b (dL d a))(c:ed a=17):(eh X (Zd b 0)=ai (Zg d.c)/\X.frozen? ⟨b,0,an⟩=ba)/\(eh X (Zd b 20)=ai (C0 d.a)/\X.frozen? ⟨b,20,an⟩=ba)/\eh X (Zd b 21)=ai (C0 d.b)/\X.frozen? ⟨b,21,an⟩=ba:=by obtain⟨m,n,o,p,q,r,s,t,u,v,e,f,g,i,j,k,l,rfl⟩:=Jo c;exact⟨h 0 _ rfl,h 20 _ rfl,h 21 _ rfl⟩
theorem NB{d:Dd}{a:Zj}(h:Aa X b (dL d a))(c:Int):Aa (el X (Zd b 0) (Zg c)) b (dL ⟨c,d.v,d.s,d.n,d.a,d.b⟩ a):=h.set 0 _
theorem Abv{d:Dd}{a:Zj}(h:Aa X b (dL d a))(e:ed a=17)(c:Int)(p q:Zi):Aa (el (el (el X (Zd b 0) (Zg c)) (Zd b 20) (C0 p)) (Zd b 21) (C0 q)) b (dL ⟨c,d.v,d.s,d.n,p,q⟩ a):=by obtain⟨n,o,r,s,t,u,v,w,x,y,f,g,i,j,k,l,m,rfl⟩:=Jo e;exact((h.set 0 _).set 20 _).set 21 _
def KP(v:Vd)(e:Ed)(Z:Rs->Zk->Nat->Zk->Nat->Zk->Nat->Zh->Prop)(X:Zh)(ch:Zj):Prop:=
 (∃c p q,e.no v c p q/\ch=Cp c p q)\/∃r ta tc pa pc la lc,e.yes v r/\ch=[Ze,Zg v.wd,Zg r.G,Zg r.H,Zg r.E,bx ta (ed r.B) tc,bx pa (ed r.ps) pc,bx la (ed r.ls) lc,.string r.sm,Zg r.le,Zc,Zc]/\Z r ta tc pa pc la lc X
theorem KP.small{e:Ed}{Z:Rs->Zk->Nat->Zk->Nat->Zk->Nat->Zh->Prop}{a:Zj}(h:KP v e Z X a):ed a=12/\∀u∈a,u.oneCell'=ay:=by
 rcases h with⟨c,p,q,_,rfl⟩|⟨r,i,j,f,g,b,d,_,rfl,_⟩
 .exact⟨rfl,by simp[Cp,oneCell']⟩
 exact⟨rfl,by simp[oneCell']⟩
theorem Ay.br{d:Zh}(h:Ay d a S U T P L Q M i v)(k:n<=a)(e:Zz d X):∀V c,(∀b∈V,b<n)->Tn V X c->VRa v c.1.size c (AV v S U T P L Q M):=λV c f hT=>by refine(h.stays (((Tn.of (V:=[]) e).ah Yu).ag hT) (λb g c=> ?_)).io;have j:=h.lo b c;have:=f b g;omega
theorem Ay.ap{d:Zj}(h:Ay w a S U T P L Q M d v):(∀g,Aj U=ai g->Aj S≠ai g)/\∀g,Aj U=ai g->Aj Q≠ai g/\Aj M≠ai g:=by
 have b:=h.nd;unfold DC at b;generalize BJ T P L d=B at *
 simp only[nodup_append,A5,A6]at b;refine⟨λg c e=>b.1.2.2 g e g c rfl,λg c=>⟨λc=> ?_,λc=> ?_⟩⟩
 .exact gG
 exact gG
theorem YA{d:Zk}{i:Nat}{a:Zl}(h:ej w b 9 1 (Cx d (ed a) i) (ed a) (a.map string)):Ad w w.1.size d a/\(d=an->ed a=0/\i=0):=by
 rcases h.2 with⟨c,f⟩|⟨g,k,l,c,_,_,j,_⟩
 .injection c with e1 e2 e3;subst e1;exact⟨cr (A9 f),λ_=>⟨f,e3⟩⟩
 cases c;exact⟨Ad.own h,λe=>by cases e⟩
theorem CT.low{m:Zh}{y t p:Zk}{u r:Nat}{A:List (Kd×Value)}{x:C7}{s:C6}(h:CT w d b y t p u r A x s)(j:Tn V w m)(k:∀q∈V,q<d):CT m d b y t p u r A x s:=by
 have o:∀{e:TypeId} {size:Nat} {v:Dg} {n:Nat} {xs:Zj},ej w d e size v n xs->ej m d e size v n xs:=λh=>Ar h (λg f=>j.block g (Ab h f).2 (λe=>by have D:=k g e;have E:=(Ab h f).1;omega));refine⟨h.tb,?_,Zr h.bl j.size,o h.po,o h.lo,Zm h.lb j.size,h.bL,h.pL,h.zL,h.zb,h.zr⟩;rcases h.zb with e|e
 .rw[e];intro i z l;simp at l
 exact h.z.O j h.bl (λf=>C8 (k b f)) (λz l a n c B C f=>by have D:=k _ f;have E:=h.zr z l a n c B C;omega)
theorem Afg{j k l m n o p:Dg}(h:Aa w b [j,k,l,m,n,o,p])(a c d e f g i:Dg):Aa (el (el (el (el (el (el (el w (Zd b 0) a) (Zd b 1) c) (Zd b 2) d) (Zd b 3) e) (Zd b 4) f) (Zd b 5) g) (Zd b 6) i) b [a,c,d,e,f,g,i]:=
 ((((((h.set 0 a).set 1 c).set 2 d).set 3 e).set 4 f).set 5 g).set 6 i
theorem tn7(w:Zh)(R:Nat)(a b c d e f g:Dg):Tn [R] w (el (el (el (el (el (el (el w (Zd R 0) a) (Zd R 1) b) (Zd R 2) c) (Zd R 3) d) (Zd R 4) e) (Zd R 5) f) (Zd R 6) g):=
 ((((((Bi _ _ _ _).ag (Bi _ _ _ _)).ag (Bi _ _ _ _)).ag (Bi _ _ _ _)).ag (Bi _ _ _ _)).ag (Bi _ _ _ _)).ag (Bi _ _ _ _)
theorem Rx(d:Int){a:Zk}(yF:Nat){g:Zl}(j:Ad w w.1.size a g)(hl:ed g<=1048576)(hs:∀s∈g,s.size<=1048576):
 D4 38 #[Zg d,Cx a (ed g) yF] w (Agl d g w):=by
 have⟨W,l⟩:=Du w Yd 81;obtain⟨Y,zW,xW,HW,f⟩:=(Av l).1,(Av l).2.1,(Av l).2.2,Yw l,Mm d W;have⟨⟨E,q0⟩,⟨F,q1⟩,⟨G,q2⟩,⟨H,q3⟩,⟨I,q4⟩,⟨J,q5⟩,⟨K,q6⟩,⟨L,q7⟩,⟨M,q8⟩,⟨N,q9⟩,⟨p,zB⟩,t,zC⟩:=Br xW;clear l;by_cases hwd:1<=d/\d<=8
 case neg=>
  rw[decide_eq_false hwd]at f;have u:=Yw f;clear f;delta D4;go_in;go_wp2_with fail;rw[<-HW.o];refine u.Ak ?_;rintro e w1 ⟨rfl,l⟩;replace l:=l.symm;subst l;clear u;go_wp2;refine Co (ca (Yc 1)) Ei ?_;exact⟨⟨1,0,0,0,0,0,⟨#[]⟩,⟨#[]⟩,⟨#[]⟩,[],[],[]⟩,_,_,_,[],cr ⟨λh=>hwd h.1,rfl⟩,rfl,TL _ _,Y.ag ((Bw W w.1.size _ _ _ _ _ _ _ _ _ _ _ _).A Y.size Yu)⟩
 rw[decide_eq_true hwd]at f;by_cases hlen:ed g<=4000
 case neg=>
  have yG:decide ((4000:Int)<ed g)=ay:=Yt;have u:=Yw f;clear f;delta D4;go_in;go_wp2_with fail;rw[<-HW.o];refine u.Ak ?_;rintro e w1 ⟨rfl,l⟩;replace l:=l.symm;subst l;clear u;go_wp2;refine Co (ca (Yc 1)) Ei ?_;exact⟨⟨1,0,0,0,0,0,⟨#[]⟩,⟨#[]⟩,⟨#[]⟩,[],[],[]⟩,_,_,_,[],cr ⟨λh=>hlen h.2,rfl⟩,rfl,TL _ _,Y.ag ((Bw W w.1.size _ _ _ _ _ _ _ _ _ _ _ _).A Y.size Yu)⟩
 have yG:decide ((4000:Int)<ed g)=ba:=Yt;have⟨A,n⟩:=Du W #[Zg d,Ze,Ze,Ze,Zb,Zb,Zb] 30;have o:=(Av n).1;have zA:A.1.size=w.1.size+2:=gB;have y:Aa A (w.1.size+1) [Zg d,Ze,Ze,Ze,Zb,Zb,Zb]:=by rw[n,<-zW];exact Aa.new W _ _
 have C:=Aa.A (v:=Ze) xW o;have yE:=Y.ag (o.ah Y.size);have P:CT A (w.1.size+2) w.1.size an an an 0 0 [] [] []:=⟨ct rfl,λi z l=>by simp at l,Yv,⟨rfl,cr ⟨rfl,rfl⟩⟩,⟨rfl,cr ⟨rfl,rfl⟩⟩,Yv,by simp[ownBlock],λq h=>by simp[ownBlock]at h,λz l=>by simp at l,cr rfl,λz l=>by simp at l⟩;have u:=Yw f;have x:=Yw n;have m:=Yw (Zn y (Zn C (Zn P yE)));have zF:Hid (Ad w w.1.size a g):=j;clear f n y C P o j;delta D4;go_in;go_wp2_with fail;rw[<-HW.o];refine u.Ak ?_;rintro e w1 ⟨rfl,l⟩;replace l:=l.symm;subst l;clear u;go_upto_region 4 with fail;rw[<-x.o];clear x E F G H I J K L M N p t q0 q1 q2 q3 q4 q5 q6 q7 q8 q9 zB zC;go_wp2;go_loopw [6] (λi wr=>∃(k:Nat) (r:Rs) (b:Nat) (ta pa Z:Zk) (tc pc z:Nat) (R:List (Kd×Value)),k<=ed g/\i=Zg k/\Hid (Aa wr (w.1.size+1) (Yh d r.G r.H r.E ta (ed R) tc pa (ed r.ps) pc Z (ed r.ls) z)/\Aa wr w.1.size z12/\CT wr (w.1.size+2) b ta pa Z pc z R r.ps r.ls/\R.map (·.1)=r.B/\Cc d r0 (g.take k) r/\Zz w wr)) (λi _=>ed g -(intOf i).toNat)
 case atStart=>exact⟨0,r0,w.1.size,an,an,an,0,0,0,[],Aw _,rfl,⟨m.1,m.2.1,m.2.2.1,rfl,rfl,m.2.2.2⟩⟩
 clear m;obtain⟨k,r,b,ta,pa,Z,tc,pc,z,R,hk,rfl,f⟩:=hrel;have⟨zO,zP,P,m,j,n⟩:=f.o;by_cases hlt:k<ed g
 case neg=>
  obtain rfl:k=ed g:=Yv;have j:=f.2.2.2.2.1;rw[Zt (Zx)]at j;have x:=j.ok (Fq hwd.1 hwd.2);have m:=f.2.2.2.1;have o:=f.2.2.1;have D:=Jz d r.G r.H r.E ta pa Z tc pc z (R.map (·.1)) r.ps r.ls wr ⟨o.fq,o.ic,o.ia⟩ (λB V=>by
   rcases o.tb with e|e
   .rw[e]at V;cases V;exact o.z.some
   rw[e];intro i k hk;simp at hk) (Fs o.po) (Fs o.lo) (by rw[m];exact x.bn.len) x.np x.nl (by rw[m];exact x.dz)
  rw[A7,m]at D;have V:=Yw D;have s:=Yw j;obtain⟨v0,v1,v2,v3,v4,v5,v6⟩:=Aa.c7 f.1 0 1 2 3 4 5 6;clear D j x m o zO zP P n;go_wp2_with fail;refine V.Ak ?_;rintro e w4 ⟨T,P',L',rs,rfl,hS,_,j⟩;obtain⟨B,yI,rfl⟩:=AB hS.aw;obtain⟨D,P,rfl⟩:=AB hS.pins;obtain⟨o,x,rfl⟩:=AB hS.bh;have Q:=Aa.A (v:=Ze) f.2.1 j;have yO:=f.2.1.lt;have m:=Yw (Zn hS j);have⟨⟨E,q0⟩,⟨F,q1⟩,⟨G,q2⟩,⟨H,q3⟩,⟨I,q4⟩,⟨J,q5⟩,⟨K,q6⟩,⟨L,q7⟩,⟨M,q8⟩,⟨N,q9⟩,⟨p,zB⟩,t,zC⟩:=Br Q;clear hS j V Q v0 v1 v2 v3 v4 v5 v6;go_wp2;refine Co (ca #[Ze,Zg d,Zg r.G,Zg r.H,Zg r.E,Cx B (ed r.B) yI,Cx D (ed r.ps) P,Cx o (ed r.ls) x,Zc,Ze,Zc,Zc]) Ei ?_;have n:=f.2.2.2.2.2;refine⟨⟨0,d,r.G,r.H,r.E,0,⟨#[]⟩,⟨#[]⟩,⟨#[]⟩,r.B,r.ps,r.ls⟩,_,_,_,rs,ct ⟨⟨hwd,hlen⟩,ct ⟨r,s,rfl⟩⟩,rfl,(m.1.O (Bw w4 w.1.size _ _ _ _ _ _ _ _ _ _ _ _) Yt).ah n.size,?_⟩;exact(n.ag (m.2.ah n.size)).ag ((Bw w4 w.1.size _ _ _ _ _ _ _ _ _ _ _ _).A (Zm n.size m.2.size) Yu)
 obtain⟨rb,yK,ha,yN,o⟩:=((zF.A n).ah n.size).at hlt;subst ha;have HG:=Yw (Zv hlt);obtain⟨yH,c,yC⟩:=hs _ (getElem_mem hlt),o k _ HG,Yw (Zu hlt);clear o;generalize g[k]=s at *
 have x:=Yw (Tp s d wr yH);clear zO zP P m j n;go_wp2_with fail;refine x.Ak ?_;rintro e w2 ⟨v,rfl,zM,zK⟩;obtain⟨ra,rc,rfl⟩:=AB zM;have⟨w3,o⟩:=Du w2 (Ye ((AI s d).k) ((AI s d).sum) ((AI s d).name) ((AI s d).n) ((AI s d).t) ra (ed (AI s d).ss) rc) 117;have zJ:=(Av o).1;have b3:=zK.ag (zJ.ah zK.size);have U:=(Av o).2.2;have Q:=Aa.A f.1 b3;obtain⟨S,y,O,C,D⟩:=Aa.A (v:=Ze) f.2.1 b3,f.2.2.1.A b3,Yw (f.2.2.2.2.2.ag (b3.ah f.2.2.2.2.2.size)),YA (Ai zM zJ),Yw o;have yM:(k:Int)<=4000:=Yv
 clear o x;cases hok:(AI s d).ok with
 |false=>
  have⟨⟨E,q0⟩,⟨F,q1⟩,⟨G,q2⟩,⟨H,q3⟩,⟨I,q4⟩,⟨J,q5⟩,⟨K,q6⟩,⟨L,q7⟩,⟨M,q8⟩,⟨N,q9⟩,⟨p,zB⟩,t,zC⟩:=Br S;clear U Q y C c S;go_upto_region 8 with fail;rw[<-D.o];go_wp2;refine Co (ca #[Zg 7,Ze,Ze,Ze,Ze,Zb,Zb,Zb,Zc,Zg ((k:Int)+1),Zc,Zc]) Ei ?_
  exact⟨⟨7,0,0,0,0,((k+1:Nat):Int),⟨#[]⟩,⟨#[]⟩,⟨#[]⟩,[],[],[]⟩,_,_,_,[],ct ⟨⟨hwd,hlen⟩,cr ⟨k+1,⟨k,r,s,rfl,HG,f.2.2.2.2.1,cr hok⟩,rfl⟩⟩,rfl,TL _ _,O.ag ((Bw w3 w.1.size _ _ _ _ _ _ _ _ _ _ _ _).A O.size Yu)⟩
 |true=>
  obtain⟨zN,x,m⟩:=(GJ hok).1,f.2.2.2.2.1.ok (Fq hwd.1 hwd.2),f.2.2.2.1;have o:IQ d r.G r.H r.E (R.map (·.1)) r.ps r.ls (AI s d).k (AI s d).n (AI s d).t (AI s d).ss:=by rw[m];exact Gk.jn x zN (by have:=QB zN;unfold maxLen;omega)
  have V:=Yw (LG tc (AI s d).sum (AI s d).name rc y o (by rw[m];exact x.dz) C.1 C.2);obtain⟨v0,v1,v2,v3,v4,v5,v6⟩:=Aa.c7 Q 0 1 2 3 4 5 6;obtain⟨⟨B,T,u2,u3,u4,u5⟩,yB,yD,zI⟩:=Aa.c6 U 0 1 2 3 4 5,Yw Q,Yw S,Yw y;clear U Q y C c S o;go_upto_region 8 with fail;rw[<-D.o];clear D;go_wp2_with fail;refine V.Ak ?_;rintro e w4 ⟨o,hQ⟩;have zG:∀q∈(Cx Z (ed r.ls) z).ownBlock.toList,w.1.size+2<=q:=λq h=>(Ab zI.lo gA).1;have zE:=o.A zI.lb zG;have Q:=Aa.same yD (zE.block _ Yv);have s4:=Aa.same yB (zE.block _ Yv);have U:=Yw (O.ag (zE.ah Yv));clear v0 v1 v2 v3 v4 v5 v6 B T u2 u3 u4 u5 V o;rcases hQ with⟨c,a',b',D,rfl⟩|⟨y,b1,zX,zY,zZ,zU,zV,zS,zT,B,rfl,hm,hC⟩
  .rw[m]at D;have yL:(c !=0)=ay:=(by have:=D.code;simp;omega);have yA:=Yw D;have q:ee (Cp c a' b')= #[Zg c,Ze,Ze,Ze,Ze,Zb,Zb,Zb,Zc,Ze,C0 a',C0 b']:=rfl;rw[q];have⟨w5,o⟩:=Du w4 #[Zg c,Ze,Ze,Ze,Ze,Zb,Zb,Zb,Zc,Ze,C0 a',C0 b'] 81;have C:=(Av o).1;have h:=(Av o).2.2;have S:=Yw (U.ag (C.ah U.size));obtain⟨⟨⟨E,q0⟩,⟨F,q1⟩,⟨G,q2⟩,⟨H,q3⟩,⟨I,q4⟩,⟨J,q5⟩,⟨K,q6⟩,⟨L,q7⟩,⟨M,q8⟩,⟨N,q9⟩,⟨p,zB⟩,t,zC⟩,⟨m0,_⟩,V⟩:=Br (Aa.A (v:=Ze) Q C),h 0 _ rfl,Yw o;clear o D h Q s4 q;go_upto_region 11 with fail;rw[<-V.o];go_wp2;refine Co (ca #[Zg 7,Ze,Ze,Ze,Ze,Zb,Zb,Zb,Zc,Zg ((k:Int)+1),Zc,Zc]) Ei ?_;exact⟨⟨7,0,0,0,0,((k+1:Nat):Int),⟨#[]⟩,⟨#[]⟩,⟨#[]⟩,[],[],[]⟩,_,_,_,[],ct ⟨⟨hwd,hlen⟩,cr ⟨k+1,⟨k,r,s,rfl,HG,f.2.2.2.2.1,ct ⟨c,a',b',yA⟩⟩,rfl⟩⟩,rfl,TL _ _,S.ag ((Bw w5 w.1.size _ _ _ _ _ _ _ _ _ _ _ _).A S.size Yu)⟩
  rw[m]at B;have⟨w5,o⟩:=Du w4 #[Ze,Zg d,Zg y.G,Zg y.H,Zg y.E,Cx zX (ed y.B) zY,Cx zU (ed y.ps) zV,Cx zS (ed y.ls) zT,C0 y.sm,Zg y.le,Zc,Zc] 81;have C:=(Av o).1;obtain⟨h,D,x5,s,zH⟩:=(Av o).2.2,Aa.A s4 C,Aa.A (v:=Ze) Q C,hC.A C,Yw (U.ag (C.ah U.size));have T:ed y.B=ed zZ:=gG;obtain⟨q,⟨v0,p0⟩,⟨v1,p1⟩,⟨v2,p2⟩,⟨v3,p3⟩,⟨v4,p4⟩,⟨v5,p5⟩,v6,p6⟩:=Yw (Zn D (Zn x5 (Zn s (Zn hm (Zn B T))))),(⟨D 0 _ rfl,D 1 _ rfl,D 2 _ rfl,D 3 _ rfl,D 4 _ rfl,D 5 _ rfl,D 6 _ rfl⟩:(_/\_)/\(_/\_)/\(_/\_)/\(_/\_)/\(_/\_)/\(_/\_)/\_/\_);obtain⟨⟨m0,m1,m2,m3,m4,m5,m6⟩,⟨m7,_⟩,V⟩:=Aa.c7 h 0 1 2 3 4 5 6,h 7 _ rfl,Yw o;have X:Hid (Cc d r0 (g.take (k+1)) y):=by show Cc _ _ _ _;rw[yC.o];exact f.2.2.2.2.1.snoc ⟨hok,B⟩
  have yJ:=s.lb;clear o B h Q s4 D x5 hC s T hm;go_upto_region 11 with fail;rw[<-V.o];clear V;go_wp2;refine⟨⟨k+1,y,b1,zX,zU,zS,zY,zV,zT,zZ,Yv,Yn,⟨?_,Aa.same q.2.1 ((tn7 w5 (w.1.size+1) _ _ _ _ _ _ _).block _ Yv Yu),q.2.2.1.low (tn7 w5 (w.1.size+1) _ _ _ _ _ _ _) Yu,q.2.2.2.1,X,zH.ag ((tn7 w5 (w.1.size+1) _ _ _ _ _ _ _).A zH.size Yu)⟩⟩,Ys⟩;rw[<-q.2.2.2.2.2];exact Afg q.1 _ _ _ _ _ _ _
theorem Abw(h:z12[j]?=ai (C0 s)):s=⟨#[]⟩:=by have:=Zs h;simpa [z12]using this
theorem QI{a:Nat×Nat}(h:w.1[o]?=ai (bs (ee z12) t a))(j:Nat):eh w (Zd o j)=z12[j]?:=by simp[cell?,h]
theorem BO.je{p:Zh}{y:Nat×Nat}{c:List (Kd×Value)}(h:BO w b 0 c)(k:w.1[o]?=Option.some (bs (ee z12) t y))(u:∀z∈c,∀s∈z.1.C,s≠⟨#[]⟩)(C:Tn [o] w p)(q:b<w.1.size):BO p b 0 c:=by
 cases hzs:c with
 |nil=>intro i z a;simp at a
 |cons z0 zs0=>
  rw[<-hzs];have H:b≠o:=by rintro rfl;obtain⟨⟨g,_⟩,_⟩:=h 0 z0 gA;rw[Nat.zero_mul,Nat.add_zero,QI k]at g;simp[z12]at g
  refine h.O C q Yt (λz a d n d e l d=> ?_);have⟨i,B⟩:=A3 a;have⟨_,D,F,j,f⟩:=h i z B;rw[e]at j;cases j;rcases f with f|⟨G,v,x,_,A⟩
  .exact l f
  cases x;simp at d;subst d;have⟨r,m,E⟩:∃r m,z.1.C=r::m:=exists_cons_of_ne_nil l;have d:=A 0 r gA;rw[QI k]at d;exact u z a r gA (Abw d)
theorem CT.je{t:Zh}{r n k:Zk}{p l:Nat}{j:List (Kd×Value)}{q:C7}{m:C6}(h:CT w a b r n k p l j q m)(i:w.1[o]?=ai (bs (ee z12) 81))(u:∀z∈j,∀s∈z.1.C,s≠⟨#[]⟩)(f:Tn [o] w t):CT t a b r n k p l j q m:=
 ⟨h.tb,h.z.je i u f h.bl,Zr h.bl f.size,Ar h.po (λg e=>f.block g (Ab h.po e).2 (by
  simp only[mem_singleton];rintro rfl;have⟨c,d⟩:=BN h.po e;rw[i]at d;simp at d)),Ar h.lo (λg e=>f.block g (Ab h.lo e).2 (by
  simp only[mem_singleton];rintro rfl;have⟨c,d⟩:=BN h.lo e;rw[i]at d;simp at d)),Zm h.lb f.size,h.bL,h.pL,h.zL,h.zb,h.zr⟩
theorem CT.of{h:Zj}{d:List Kd}{E:List Pd}{D:List Ld}(hS:Bc w a T P L h d E D)(r:∀v∈T::P::L::h,∃g n c,v=Yz g n c)(R:a<=w.1.size):
 ∃b p l F t s f,T=Yz b (ed f) F/\P=Yz p (ed E) t/\L=Yz l (ed D) s/\f.map (·.1)=d/\CT w a b (ai ⟨b,0,an⟩) (ai ⟨p,0,an⟩) (ai ⟨l,0,an⟩) t s f E D/\a<=l/\l<w.1.size:=by
 obtain⟨b,H,F,rfl⟩:=r T Yu;obtain⟨p,I,t,rfl⟩:=r P Yu;obtain⟨l,J,s,rfl⟩:=r L Yu;obtain⟨_,_,M⟩:=AB hS.aw;obtain⟨_,_,N⟩:=AB hS.pins;obtain⟨_,_,O⟩:=AB hS.bh;cases M;cases N;cases O;have hlen:ed (d.zip h)=ed d:=by rw[length_zip,hS.len];omega
 have u:(d.zip h).map (·.1)=d:=map_fst_zip (by rw[hS.len];exact Zx);have m:=hS.nd;rw[Ho]at m;unfold BJ at m;obtain⟨H,I,J⟩:=QF m (l:=l) rfl;have A:=hS.aw;rw[<-hlen]at A;have o:∀z∈d.zip h,∃i,d[i]?=ai z.1/\h[i]?=ai z.2:=λz f=>by have⟨i,C⟩:=A3 f;rw[getElem?_zip_eq_some]at C;exact⟨i,C.1,C.2⟩
 refine⟨b,p,l,F,t,s,d.zip h,by rw[hlen],rfl,rfl,u,⟨cr rfl,?_,(Ab hS.aw rfl).2,hS.pins,hS.bh,R,?_,?_,?_,ct (Ab hS.aw rfl).1,?_⟩,Ab hS.bh rfl⟩
 .refine BO.own A (λz f=> ?_);have⟨i,q,j⟩:=o z f;have k:=hS.C i z.1 z.2 q j;obtain⟨⟨Q,X,K,B⟩,W,V,x⟩:=r z.2 (by simp;exact ct (ct (ct (Zs j)))),AB k;rw[B]at x;cases x;rw[B]at k;exact⟨⟨Q,0,an⟩,K,B,Ad.own k⟩
 .intro e;simp[ownBlock]at e;exact H (by simp[ownBlock,e])
 .intro g S e;simp[ownBlock]at S e;exact I D7
 .intro z f G n U e _ y;simp[ownBlock]at y;have⟨i,q,j⟩:=o z f;refine J (mem_filterMap.2 ⟨z.2,Zs j,?_⟩);rw[e];simp[ownBlock,y]
 intro z f G n U e _;have⟨i,q,j⟩:=o z f;have k:=hS.C i z.1 z.2 q j;rw[e]at k;exact(Ab k (g:=G.block) (by simp[ownBlock])).1
theorem Rz(v:Vd)(a:Va)(w:Zh)(A:∀X,Zz w X->D4 143 #[ca #[Cx a.y (ed v.ss) a.sc,Cx a.ta (ed v.D) a.d]] X λe l=>∃x j y k,e=C1 (ca #[Yz x (ed v.ss) j,Yz y (ed v.D) k])/\ej l X.1.size 9 1 (Yz x (ed v.ss) j) (ed v.ss) (v.ss.map string)/\ej l X.1.size 9 1 (Yz y (ed v.D) k) (ed v.D) (v.D.map string)/\x≠y/\Zz X l)(G:∀X,Zz w X->D4 81 #[ca (Yg v.P v.G v.H v.E a.W (ed v.B) a.j a.Z (ed v.ps) a.g a.X (ed v.ls) a.e)] X λe l=>∃T P L q,e=C1 (ca #[Zg v.P,Zg v.G,Zg v.H,Zg v.E,T,P,L])/\Bc l X.1.size T P L q v.B v.ps v.ls/\(∀u∈T::P::L::q,∃g n c,u=Yz g n c)/\Zz X l)(D:∀X,Zz w X->D4 144 #[ca (Yb v.I a.qa (ed v.F) a.qc a.i (ed v.ms) a.mc v.L v.K v.ro)] X λe l=>∃i d f b,e=C1 (ca (Yb v.I (ai ⟨i,0,an⟩) (ed v.F) d (ai ⟨f,0,an⟩) (ed v.ms) b v.L v.K v.ro))/\ej l X.1.size 9 1 (Yz i (ed v.F) d) (ed v.F) (v.F.map string)/\ej l X.1.size 9 1 (Yz f (ed v.ms) b) (ed v.ms) (v.ms.map string)/\i≠f/\Zz X l):
 D4 99 #[ca (Xr v a)] w λe l=>∃(S U T P L Q M:Dg) (q:Zj),e=C1 (ca #[Zg v.wd,Zg v.J,S,U,Zg v.P,Zg v.G,Zg v.H,Zg v.E,T,P,L,Zg v.I,Q,M,Zg v.L,Zg v.K,Zg v.ro])/\Ay l w.1.size S U T P L Q M q v/\(∀u∈S::U::Q::M::T::P::L::q,∃g n c,u=Yz g n c)/\Zz w l:=by
 have⟨W,t⟩:=Ag ((w.alloc (bs (Xr v a) 34)).alloc (bs Xp 34));have B:=(AT t).1;have zW:=(AT t).2.1;have HX:Hid (Aa W _ _):=(AT t).2.2.1;have HZ:Hid (Aa W (w.1.size+1) Xo):=by have A:=Aa.new (w.alloc (bs (Xr v a) 34)) Xo 34;rw[Aq]at A;show Aa W (w.1.size+1) Xo;rw[t];exact A
 obtain⟨H1,H2,H3⟩:=Yw A,Yw G,Yw D;have F:Hid (∀X,Zz W X->Aa X w.1.size (Xq v a)):=λX z=>Aa.A HX z;have C:=Yw t;clear t A G D;delta D4;go_in;go_upto_region 1 with fail;rw[<-C.o];clear C;go_cut [0] (λu t=>∃x j y k r s o p l m q i d f b,Hid (Aa t (w.1.size+1) (Xk v (ai ⟨x,0,an⟩) j (ai ⟨y,0,an⟩) k r s o p l m (ai ⟨i,0,an⟩) d (ai ⟨f,0,an⟩) b)/\Zz w t/\Ay t w.1.size (C2 x v.ss j) (C2 y v.D k) (Cw r v.B s) (Cw o v.ps p) (Cw l v.ls m) (C2 i v.F d) (C2 f v.ms b) q v/\∀u∈(Cw r v.B s)::(Cw o v.ps p)::(Cw l v.ls m)::q,∃g n c,u=Yz g n c))
 case first=>
  refine wp_region_held_drew (S:=λX=>Aa X w.1.size (Xq v a)) Yr (F _ Ae.drew) (λhS=> ?_);refine AK 0 (Yy w.1.size) ?_;refine Di 1 (Zg v.wd) rfl (by exact Or.inl ⟨Yp,λX z=>by have h0:=(z 0 _ rfl).1;go_simp⟩) ?_;try simp only[Act.put,Zq,Zp,Zo]
  refine AK 2 (Yx w.1.size 1) ?_;refine Di 3 (Zg v.J) rfl (by exact Or.inl ⟨Yp,λX z=>by have h0:=(z 1 _ rfl).1;go_simp⟩) ?_;try simp only[Act.put,Zq,Zp,Zo]
  refine AK 4 (Yx w.1.size 2) ?_;refine Di 5 (ca #[Cw a.y v.ss a.sc,Cw a.ta v.D a.d]) rfl (by exact yieldsIf_load_mid Yp 25 _ rfl (w.1.size) 2 rfl [Cw a.y v.ss a.sc,Cw a.ta v.D a.d] _ (λX h=>Aa.fx [Zg v.wd,Zg v.J] [Cw a.y v.ss a.sc,Cw a.ta v.D a.d] [Zg v.P,Zg v.G,Zg v.H,Zg v.E,Cw a.W v.B a.j,Cw a.Z v.ps a.g,Cw a.X v.ls a.e,Zg v.I,Cw a.qa v.F a.qc,Cw a.i v.ms a.mc,Zg v.L,Zg v.K,Zg v.ro] h) underlying25 rfl Yr) ?_;try simp only[Act.put,Zq,Zp,Zo]
  refine AK 7 (Yx w.1.size 4) ?_;refine Di 8 (ca (C4 v.P v.G v.H v.E a.W v.B a.j a.Z v.ps a.g a.X v.ls a.e)) rfl (by exact yieldsIf_load_mid Yp 30 _ rfl (w.1.size) 4 rfl (C3 v.P v.G v.H v.E a.W v.B a.j a.Z v.ps a.g a.X v.ls a.e) _ (λX h=>Aa.fx [Zg v.wd,Zg v.J,Cw a.y v.ss a.sc,Cw a.ta v.D a.d] (C3 v.P v.G v.H v.E a.W v.B a.j a.Z v.ps a.g a.X v.ls a.e) (Xu v.I a.qa (ed v.F) a.qc a.i (ed v.ms) a.mc v.L v.K v.ro) h) underlying30 rfl Yr) ?_;try simp only[Act.put,Zq,Zp,Zo]
  refine AK 10 (Yx w.1.size 11) ?_;refine Di 11 (ca (Yb v.I a.qa (ed v.F) a.qc a.i (ed v.ms) a.mc v.L v.K v.ro)) rfl (by exact yieldsIf_load_mid Yp 32 _ rfl (w.1.size) 11 rfl (Xu v.I a.qa (ed v.F) a.qc a.i (ed v.ms) a.mc v.L v.K v.ro) _ (λX h=>Aa.fx [Zg v.wd,Zg v.J,Cw a.y v.ss a.sc,Cw a.ta v.D a.d,Zg v.P,Zg v.G,Zg v.H,Zg v.E,Cw a.W v.B a.j,Cw a.Z v.ps a.g,Cw a.X v.ls a.e] (Xu v.I a.qa (ed v.F) a.qc a.i (ed v.ms) a.mc v.L v.K v.ro) [] h) underlying32 rfl Yr) ?_;try simp only[Act.put,Zq,Zp,Zo]
  refine Bk 6 (λK z=> ?_);go_simp;refine(H1 W.drew B.drew).ah ?_;rintro e w1 ⟨x,j,y,k,rfl,zG,C,h,zF⟩;have V:=(Below.refl W.1.size W).drew.ag zF;try go_simp
  refine z.out _ _ (F w1 V) (λt=> ?_);clear z K;refine Bk 9 (λK z=> ?_);go_simp;refine(H2 w1 (B.ag (V.ah B.size))).ah ?_;rintro e w2 ⟨T,P,L,q,rfl,O,zB,H⟩;obtain⟨r,s,o,p,l,m,rfl,rfl,rfl,_⟩:=O.rows;have E:=V.ag (H.ah V.size);try go_simp
  refine z.out _ _ (F w2 E) (λt=> ?_);clear z K;try simp only[Act.put,Zq,Zp,Zo]
  refine Bk 12 (λK z=> ?_);go_simp;refine(H3 w2 (B.ag (E.ah B.size))).ah ?_;rintro e N ⟨i,d,f,b,rfl,zH,D,n,I⟩;have J:bg W.1.size W N:=E.ag (I.ah E.size);try go_simp
  refine z.out _ _ (F N J) (λt=> ?_);clear z K;refine AK 13 (ca (Xj v (ai ⟨x,0,an⟩) j (ai ⟨y,0,an⟩) k r s o p l m (ai ⟨i,0,an⟩) d (ai ⟨f,0,an⟩) b)) ?_;try simp only[Act.put,Zq,Zp,Zo]
  refine Bk 14 (λK z=> ?_);have zE:Ay N W.1.size (C2 x v.ss j) (C2 y v.D k) (Cw r v.B s) (Cw o v.ps p) (Cw l v.ls m) (C2 i v.F d) (C2 f v.ms b) q v:=Ay.of (n1:=w1.1.size) (n2:=w2.1.size) (Ah.own (Ai (Ai zG H) I)) (Ah.own (Ai (Ai C H) I)) (λg A G=>by cases A;cases G;exact h rfl) (λg t=>by rcases t with t|t;(cases t;exact(zG.lt _ rfl).2);(cases t;exact(C.lt _ rfl).2)) (O.A I) zF.size O.dj (Ah.own (zH.ah E.size)) (Ah.own (D.ah E.size)) (λg t=>by rcases t with t|t;(cases t;exact(zH.lt _ rfl).1);(cases t;exact(D.lt _ rfl).1)) H.size (λg A G=>by cases A;cases G;exact n rfl);have zA:((Xj v (ai ⟨x,0,an⟩) j (ai ⟨y,0,an⟩) k r s o p l m (ai ⟨i,0,an⟩) d (ai ⟨f,0,an⟩) b):Array Value).all (·.oneCell')=ay:=Ef;obtain⟨zC,Z,R⟩:=Aa.A (v:=Ze) HZ J,Ag (N.setCells (w.1.size+1) 0 (Xk v (ai ⟨x,0,an⟩) j (ai ⟨y,0,an⟩) k r s o p l m (ai ⟨i,0,an⟩) d (ai ⟨f,0,an⟩) b));have x9:Aa Z (w.1.size+1) (Xk v (ai ⟨x,0,an⟩) j (ai ⟨y,0,an⟩) k r s o p l m (ai ⟨i,0,an⟩) d (ai ⟨f,0,an⟩) b):=by rw[R];exact zC.ax _ rfl
  have X:Tn [w.1.size+1] N Z:=by rw[R];exact Ap _ _ _ _
  have z3:=J.size;have B9:bg w.1.size w Z:=(B.ag (J.ah B.size)).ag (X.A Yv Yu);have zI:Ay Z w.1.size (C2 x v.ss j) (C2 y v.D k) (Cw r v.B s) (Cw o v.ps p) (Cw l v.ls m) (C2 i v.F d) (C2 f v.ms b) q v:=(zE.stays X (λg t Y=>by have:=zE.lo g Y;simp at t;omega)).ah Yv;have c:=Yw (Zn x9 (Zn B9 (Zn zI zB)));have g:=Aa.same (Aa.A HX J) (X.block _ Yv Yu);rw[if_pos Yp];refine wp_store_mid 34 _ _ rfl (w.1.size+1) 0 (Xj v (ai ⟨x,0,an⟩) j (ai ⟨y,0,an⟩) k r s o p l m (ai ⟨i,0,an⟩) d (ai ⟨f,0,an⟩) b) rfl rfl zC.there Yr zA ?_;try rw[<-R]
  refine z.out _ _ g (λY=> ?_);clear z K;try simp only[Act.put]
  refine wpAnyH_done Yr ?_ _;go_wp2_with fail;go_meet;exact⟨x,j,y,k,r,s,o,p,l,m,q,i,d,f,b,c⟩
 obtain⟨x,j,y,k,r,s,o,p,l,m,q,i,d,f,b,Y⟩:=hcut;go_wp2;refine bodyPost_ret (AM results99 _ _ (w.1.size+1) (Xk v (ai ⟨x,0,an⟩) j (ai ⟨y,0,an⟩) k r s o p l m (ai ⟨i,0,an⟩) d (ai ⟨f,0,an⟩) b) _ rfl Y.1.range underlying34 rfl Yr) rfl ?_;refine⟨_,_,_,_,_,_,_,q,rfl,Y.2.2.1,λu z=> ?_,Y.2.1⟩;rcases Bh.1 z with rfl|z
 .exact⟨_,_,_,rfl⟩
 rcases Bh.1 z with rfl|z
 .exact⟨_,_,_,rfl⟩
 rcases Bh.1 z with rfl|z
 .exact⟨_,_,_,rfl⟩
 rcases Bh.1 z with rfl|z
 .exact⟨_,_,_,rfl⟩
 exact Y.2.2.2 u z
structure VD (w wx:Zh) (v:Vd) (a:Va) (b:Nat) (o:An) (ta pa la:Zk) (tc pc lc:Nat):Prop where
 box:Aa wx b [Zg o.code,Zg o.wd,Zg o.G,Zg o.H,Zg o.E,bx ta (ed o.B) tc,bx pa (ed o.ps) pc,bx la (ed o.ls) lc,.string o.sm,Zg o.le,.string o.a,.string o.b]
 rows:BV wx wx.1.size ta pa la o.B o.ps o.ls
 rto:QE v.wd (v.ss++v.D) o
 jc:Aa wx w.1.size [Zg v.wd,Zg v.J,bx a.y (ed v.ss) a.sc,bx a.ta (ed v.D) a.d,Zg v.P,Zg v.G,Zg v.H,Zg v.E,bx a.W (ed v.B) a.j,bx a.Z (ed v.ps) a.g,bx a.X (ed v.ls) a.e,Zg v.I,bx a.qa (ed v.F) a.qc,bx a.i (ed v.ms) a.mc,Zg v.L,Zg v.K,Zg v.ro]
 cn:bg w.1.size w wx
theorem VD.fin{c d:Zh}{a:Va}{o:An}{f:Zk}{l:Nat}(p:QE v.wd (v.ss++v.D) o)(hS:∀X,Tn [b] d X->BV X X.1.size h g f o.B o.ps o.ls)(k:Zz w c)(e:Zz c d)(r:Aa c w.1.size (Xq v a))(t:w.1.size<c.1.size)(s:Aa d b z12)(x:c.1.size<=b):
 VD w (el (el (el (el (el (el (el (el (el (el (el (el d (Zd b 0) (Zg o.code)) (Zd b 1) (Zg o.wd)) (Zd b 2) (Zg o.G)) (Zd b 3) (Zg o.H)) (Zd b 4) (Zg o.E)) (Zd b 5) (Cx h (ed o.B) n)) (Zd b 6) (Cx g (ed o.ps) m)) (Zd b 7) (Cx f (ed o.ls) l)) (Zd b 8) (C0 o.sm)) (Zd b 9) (Zg o.le)) (Zd b 10) (C0 o.a)) (Zd b 11) (C0 o.b)) v a b o h g f n m l:=by
 have i:=Bw d b (Zg o.code) (Zg o.wd) (Zg o.G) (Zg o.H) (Zg o.E) (Cw h o.B n) (Cw g o.ps m) (Cw f o.ls l) (C0 o.sm) (Zg o.le) (C0 o.a) (C0 o.b);have u:=e.size;refine⟨YW s _ _ _ _ _ _ _ _ _ _ _ _,?_,p,?_,?_⟩
 .exact hS _ i
 .exact Aa.same (Aa.A r e) (i.block _ Yv Yt)
 exact(k.ag (e.ah k.size)).ag (i.A Yv (λj q=>by simp at q;have:=k.size;omega))
theorem IV{a:Va}(q:Bg w w.1.size a v)(d:TM a v)(z:DM v):
 D4 10 #[ca (Xr v a)] w λe w'=>Au (BY v) w w' e:=by
 have⟨W,c⟩:=Du w (Xr v a) 34;obtain⟨K,zW,t⟩:=(Av c).1,(Av c).2.1,(Av c).2.2;have HX:Hid (Aa W _ _):=(Av c).2.2;obtain⟨HR,HW,S,zB,zE,M,N,O,Q,y4,y5,y6,y7,y8,y9,D,E,F,G,H,I,J⟩:=Yw q,Yw c,Yw (Mm v.wd W),Yw (IC v.J 0 1000000 W),Yw (OQ a.sc a.d K.size (q.s.A K) (q.t.A K) z.s z.t z.ss z.D),KL t;clear c t q;by_cases hwd:1<=v.wd/\v.wd<=8
 case neg=>rw[decide_eq_false hwd]at S;delta D4;go_in;go_wp2_with fail;rw[<-HW.o];refine S.Ak ?_;rintro e w1 ⟨rfl,c⟩;replace c:=c.symm;subst c;clear M N O Q y4 y5 y6 y7 y8 y9 D E F G H I J;go_wp2;go_ret;exact Au.no (λ⟨r,h⟩=>hwd h.wd) K
 rw[decide_eq_true hwd]at S;by_cases hlim:0<=v.J/\v.J<=1000000
 case neg=>rw[decide_eq_false hlim]at zB;delta D4;go_in;go_wp2_with fail;rw[<-HW.o];refine S.Ak ?_;rintro e w1 ⟨rfl,c⟩;replace c:=c.symm;subst c;go_wp2_with fail;refine zB.Ak ?_;rintro e w1 ⟨rfl,c⟩;replace c:=c.symm;subst c;clear M N O Q y4 y5 y6 y7 y8 y9 D E F G H I J;go_wp2;go_ret;exact Au.no (λ⟨r,h⟩=>hlim h.J) K
 rw[decide_eq_true hlim]at zB;cases hlog:BR v.ss v.D with
 |true=>
  rw[hlog]at zE;obtain⟨zX,xs,c⟩:=Gr hlog,Ag (v.ss++v.D);have k:Hid (∀X,Zz W X->D4 39 #[ca #[Cw a.y v.ss a.sc,Cw a.ta v.D a.d]] X λe w'=>∃g q,e=C1 (C2 g xs q)/\ej w' X.1.size 9 1 (C2 g xs q) (ed xs) (xs.map string)/\Zz X w'):=λX x=>by have hb:=K.ag (x.ah K.size);rw[c];exact UY a.sc a.d (HR.s.U hb) (HR.t.U hb) d.s d.t z.s z.t
  have HS:Hid (∀(X:Zh) (g q:Nat),Ad X X.1.size (ai ⟨g,0,an⟩) xs->D4 38 #[Zg v.wd,C2 g xs q] X λe w'=>∃(o:An) (m:Zk) (p:Nat) (j:Zk) (l:Nat) (f:Zk) (i:Nat) (rs:Zj),e=C1 (ca #[Zg o.code,Zg o.wd,Zg o.G,Zg o.H,Zg o.E,Cw m o.B p,Cw j o.ps l,Cw f o.ls i,C0 o.sm,Zg o.le,C0 o.a,C0 o.b])/\QE v.wd xs o/\Bc w' X.1.size (Cw m o.B p) (Cw j o.ps l) (Cw f o.ls i) rs o.B o.ps o.ls/\Zz X w'):=λX g q h=>by
   refine(Rx v.wd _ h (by rw[c];omega) (λs t=>by rw[c]at t;rcases A5.1 t with h|h;exact z.ss s h;exact z.D s h)).ah ?_;rintro e w' ⟨o,T,P,L,rs,t,rfl,hS,hb⟩;obtain⟨m,p,j,l,f,i,rfl,rfl,rfl,_⟩:=hS.rows;exact⟨o,m,p,j,l,f,i,rs,rfl,t,hS,hb⟩
  have zM:=Yw c;clear c;have HM:=Yw d.m;clear d;delta D4;go_in;go_wp2_with fail;rw[<-HW.o];refine S.Ak ?_;rintro e w1 ⟨rfl,c⟩;replace c:=c.symm;subst c;go_wp2_with fail;refine zB.Ak ?_;rintro e w1 ⟨rfl,c⟩;replace c:=c.symm;subst c;go_wp2_with fail;refine zE.Ak ?_;rintro e d ⟨rfl,s⟩;have y:=Aa.A HX s;have z2:w.1.size+1<=d.1.size:=gB;have yA:=Yw s;have zF:=Yw y;have R:=Yw (K.ag (s.ah K.size));clear M N O Q y4 y5 y6 y7 y8 y9 D E F G H I J S zB zE s HW;have⟨M,N,O,Q,_⟩:=KL y;clear y;go_upto_region 3 with fail;generalize (ca (Xr v a):Dg)=dv0;go_cut [3] (λu y=>∃(b:Nat) (o:An) (m j f:Zk) (p l i:Nat),u=Yy b/\Hid (VD w y v a b o m j f p l i))
  case first=>
   have U:Hid (∀X,Zz d X->eh X (Zd (w.1.size) 0)=ai (Zg v.wd)/\eh X (Zd (w.1.size) 2)=ai (Cw a.y v.ss a.sc)/\eh X (Zd (w.1.size) 3)=ai (Cw a.ta v.D a.d)):=λX x=>by have⟨u0,u1,u2,u3,_⟩:=KL (Aa.A zF x);exact⟨u0,u2,u3⟩
   have HL:Hid (∀X,Zz d X->Zz W X):=gD;have D0:bg d.1.size d d.drew:=gB;have D1:∀o,Zz d (d.alloc o).drew:=gB;clear M N O Q;go_region_held3 (λX=>eh X (Zd (w.1.size) 0)=ai (Zg v.wd)/\eh X (Zd (w.1.size) 2)=ai (Cw a.y v.ss a.sc)/\eh X (Zd (w.1.size) 3)=ai (Cw a.ta v.D a.d))
    (first
      |with_reducible exact U.o _ D0
      |with_reducible exact U.o _ (D1 _)
      |with_reducible exact U.o _ y
      |with_reducible exact U.o _ (y.alloc y.size _)
      |with_reducible exact U.o _ B
      |with_reducible exact U.o _ (B.alloc B.size _)
      |with_reducible exact U.o _ (B.ag ((Bw Z _ _ _ _ _ _ _ _ _ _ _ _ _).A B.size gA)))
    (first
      |(go_at_call 39;guard_target=~D4 39 _ (drew (alloc d _)) _;refine Calls.mono (k (d.alloc (bs Yd 81)).drew (HL _ (D1 _))) ?_;rintro e x ⟨g,q,rfl,A,zG⟩;have y:bg d.1.size d x:=(D1 _).ag (zG.ah Yu);have V:=Ad.own A;clear A;have zA:Aa x d.1.size z12:=Aa.A (v:=Ze) (w:=(d.alloc (bs Yd 81))) (Aa.new d z12 81) (CA zG))
      |(go_at_call 39;guard_target=~D4 39 _ (drew d) _;refine Calls.mono (k d.drew (HL _ D0)) ?_;rintro e x ⟨g,q,rfl,A,zG⟩;have y:bg d.1.size d x:=D0.ag zG;have V:=Ad.own A;clear A;have nA:=y)
      |(go_at_call 38;have zH:=zA;refine Calls.mono (HS x g q V) ?_;rintro e Z ⟨o,m,p,j,l,f,i,rs,rfl,t,A,Y⟩;have C:=Yw (Zn t A);clear t A V;have B:bg d.1.size d Z:=y.ag (Y.ah y.size);have zN:Aa Z d.1.size z12:=Aa.A (v:=Ze) zA Y;have zZ:d.1.size<x.1.size:=Aa.lt (v:=Ze) zA;have zC:d.1.size<=d.1.size:=Zx;have⟨⟨t0,q0⟩,⟨t1,q1⟩,⟨t2,q2⟩,⟨t3,q3⟩,⟨t4,q4⟩,⟨t5,q5⟩,⟨t6,q6⟩,⟨t7,q7⟩,⟨t8,q8⟩,⟨t9,q9⟩,⟨t10,q10⟩,t11,q11⟩:=Br zN)
      |(go_at_call 38;guard_target=~D4 38 _ (alloc x _) _;refine Calls.mono (HS (x.alloc (bs Yd 81)) g q (V.U (Zy))) ?_;rintro e Z ⟨o,m,p,j,l,f,i,rs,rfl,t,A,Y⟩;have C:=Yw (Zn t A);clear t A V;have B:bg d.1.size d Z:=(y.alloc y.size _).ag (Y.ah (by have:=y.size;simp;omega));have zO:Aa Z x.1.size z12:=Aa.A (v:=Ze) (w:=(x.alloc (bs Yd 81))) (Aa.new x z12 81) Y;have zC:d.1.size<=x.1.size:=y.size;have⟨⟨t0,q0⟩,⟨t1,q1⟩,⟨t2,q2⟩,⟨t3,q3⟩,⟨t4,q4⟩,⟨t5,q5⟩,⟨t6,q6⟩,⟨t7,q7⟩,⟨t8,q8⟩,⟨t9,q9⟩,⟨t10,q10⟩,t11,q11⟩:=Br zO)
      |(go_at_call 38;have zH:=nA;refine Calls.mono (HS x g q V) ?_;rintro e Z ⟨o,m,p,j,l,f,i,rs,rfl,t,A,Y⟩;have C:=Yw (Zn t A);clear t A V;have B:bg d.1.size d Z:=y.ag (Y.ah y.size);have nD:=nA))
   all_goals
    go_wp2_with fail;go_meet
   all_goals first
    |(have zH:=zN
      exact⟨d.1.size,o,m,j,f,p,l,i,rfl,VD.fin (zM.o▸C.1) (λX t=>Bc.get (C.2.O t Yt)) R B zF Yv zN zC⟩)
    |(have zH:=zO
      exact⟨x.1.size,o,m,j,f,p,l,i,rfl,VD.fin (zM.o▸C.1) (λX t=>Bc.get (C.2.O t Yu)) R B zF Yv zO zC⟩)
    |(have zH:=nD
      exact⟨Z.1.size,o,m,j,f,p,l,i,rfl,⟨Aa.new Z [Zg o.code,Zg o.wd,Zg o.G,Zg o.H,Zg o.E,Cw m o.B p,Cw j o.ps l,Cw f o.ls i,C0 o.sm,Zg o.le,C0 o.a,C0 o.b] 81,(Bc.get C.2).U (Zy),zM.o▸C.1,Aa.A (Aa.A zF B) (Zy),(R.ag (B.ah R.size)).alloc (Zm R.size B.size) _⟩⟩)
  clear M N O Q k HS;obtain⟨b,o,m,j,f,p,l,i,rfl,t⟩:=hcut;rcases t.rto with⟨zY,_⟩|⟨_,⟨n,A,ho⟩|⟨r,A,ho⟩⟩
  .exact absurd ⟨hwd,zX⟩ zY
  .have zI:o.code=7:=gA;obtain⟨m0,_⟩:=t.box 0 _ rfl;rw[zI]at m0;have V:=Yw t.cn;have zJ:Hid (¬BY v):=λ⟨r,h⟩=>DP.not hwd.1 hwd.2 A h.run;clear ho A t;go_wp2;go_ret;exact Au.no zJ V
  subst ho;obtain⟨u,⟨⟨m0,_⟩,⟨m1,_⟩,⟨m2,_⟩,⟨m3,_⟩,⟨m4,_⟩,⟨m5,_⟩,⟨m6,_⟩,m7,_⟩,⟨M,N,O,Q,y4,y5,y6,y7,y8,y9,D,E,F,G,H,I,J⟩,V⟩:=A.ok (Fq hwd.1 hwd.2),c12 t.box,KL t.jc,Yw t.cn;have zT:=HR.st.ak V;obtain⟨zP,zK,X,zV⟩:=Yw (Vm v.wd r.G r.H r.E v.P v.G v.H v.E m j f a.W a.Z a.X p l i a.j a.g a.e r.B v.B r.ps v.ps r.ls v.ls wc t.rows (zT.ah V.size) ⟨C8 u.bn.len,C8 u.np,C8 u.nl⟩ ⟨z.st.k,z.st.p,z.st.l⟩ (λk X=>C8 (u.dz k X)) z.st.r),Yw t.jc,Yw A,Yw u.aj;clear zT u t;go_wp2_with fail;refine zP.Ak ?_
  rintro e w5 ⟨bb,rfl,t,u⟩;have k:=Yw (V.ag (u.ah V.size));have x5:=Aa.A zK u;clear m0 m1 m2 m3 m4 m5 m6 m7 M N O Q y4 y5 y6 y7 y8 y9 D E F G H I J zP u A;cases bb with
  |false=>
   have zJ:Hid (¬BY v):=λ⟨r',h⟩=>by obtain rfl:=X.dq h.run;have:=t.2 h.same;cases this
   clear t x5 zK;go_wp2;go_ret;exact Au.no zJ k
  |true=>
   obtain⟨A,M,N,O,Q,y4,y5,y6,y7,y8,y9,D,E,F,G,H,I,J⟩:=Yw (t.1 rfl),KL x5;have u:=Yw (XG v.P v.G v.H v.E v.I v.L v.K v.ro (Cw a.W v.B a.j) (Cw a.Z v.ps a.g) (Cw a.X v.ls a.e) a.qc a.mc (HR.q.U k) (HR.m.U k) z.r HM (by have h1:=A.1.2.2.2;have h2:=zV.o;omega));clear t x5 zK;go_wp2_with fail;refine u.Ak ?_;rintro e w6 ⟨bb,rfl,t,zS⟩;have zU:=Yw (k.ag (zS.ah k.size));have HN:Hid (bb=ay↔BY v):=by have h1:=A.1.1;rw[<-h1]at t;refine⟨λh=>⟨r,hwd,hlim,hlog,X,A,t.1 h⟩,λ⟨r',h⟩=>t.2 h.round⟩
   clear M N O Q y4 y5 y6 y7 y8 y9 D E F G H I J u t zS;go_wp2;go_ret;exact⟨bb,rfl,HN,zU⟩
 |false=>
  rw[hlog]at zE;delta D4;go_in;go_wp2_with fail;rw[<-HW.o];refine S.Ak ?_;rintro e w1 ⟨rfl,c⟩;replace c:=c.symm;subst c;go_wp2_with fail;refine zB.Ak ?_;rintro e w1 ⟨rfl,c⟩;replace c:=c.symm;subst c;go_wp2_with fail;refine zE.Ak ?_;rintro e d ⟨rfl,s⟩;have R:=Yw (K.ag (s.ah K.size));clear M N O Q y4 y5 y6 y7 y8 y9 D E F G H I J;go_wp2;go_ret;exact Au.no (λ⟨r,h⟩=>by have:=h.log;rw[hlog]at this;cases this) R
theorem CT.srows{e c:Zk}{i:List (Kd×Value)}{f:C7}{d:C6}(h:CT w a b g e c k j i f d):BV w w.1.size g e c (i.map (·.1)) f d:=⟨h.fq,h.ic,h.ia⟩
def ZSp(r:Rs)(xa:Zk)(_:Nat)(pa:Zk)(pc:Nat)(la:Zk)(lc:Nat)(X:Zh):Prop:=
 ∃base b zs,zs.map (·.1)=r.B/\CT X base b xa pa la pc lc zs r.ps r.ls
def KSp(v:Vd)(cs:Zj)(V:List Nat)(X:Zh):Prop:=
 ∃base b p l tc pc lc zs,cs=[Zg v.P,Zg v.G,Zg v.H,Zg v.E,bx (ai ⟨b,0,an⟩) (ed zs) tc,bx (ai ⟨p,0,an⟩) (ed v.ps) pc,bx (ai ⟨l,0,an⟩) (ed v.ls) lc]/\V=[l]/\zs.map (·.1)=v.B/\CT X base b (ai ⟨b,0,an⟩) (ai ⟨p,0,an⟩) (ai ⟨l,0,an⟩) pc lc zs v.ps v.ls
theorem Db.sz{d l b:Int}{j:C5}{v:C7}{t:C6}{q:Int}{u:Zi}{m:Int}{f:Zi}{e:Zl}(n:1<=d)(h:∀k∈j,(k.sum.size:Int)=d)(g:Db d l c b j v t q s u m f e r):∀k∈r.B,(k.sum.size:Int)=d:=by
 rcases g with⟨rfl,_,p,o,y,z,g,rfl⟩|⟨_,_,i,rfl⟩|⟨_,_,rfl⟩|⟨_,_,p,o,rfl⟩|⟨_,_,rfl⟩|⟨_,B,rfl⟩|⟨_,_,_,rfl⟩
 .rcases g with⟨_,_,_,_,rfl,rfl⟩|⟨x,w,A,rfl,rfl⟩
  .exact h
  intro k a;rcases A5.1 (Ee.1 a)with a|a
  .exact h k a
  rw[mem_singleton]at a;subst a;exact Fe _ _ _ n
 .exact h
 .exact h
 .exact h
 .exact h
 .exact h
 exact λk a=>h k (filter_sublist.subset a)
theorem Aec{f:Int}{b:C5}(h:QH f b):∀k∈b,∀s∈k.C,s≠⟨#[]⟩:=λk c x d e=>by have a:=Bs (h k c);have⟨i,c⟩:=A3 d;have:=a.size c;rw[e]at this;have d:=a.lo;have g:((⟨#[]⟩:Zi).size:Int)=0:=rfl;omega
def Eg(v:Vd):UR:=⟨v.B,v.I,v.L,v.K,v.ro,v.F,v.ms,[]⟩
theorem Aed(h:Bo v r):Vs v.E v.B v.ps v.ls (4000 -ed (v.ss++v.D)) (Eg v):=by have a:=h.fg;have b:=h.round;have d:=b.dy.nq;have c:=b.dy.T;exact⟨⟨a.bn.len,a.dz,a.np,a.nl,a.bi,a.aj,b.ig,b.jg,by show ed v.F<=_;omega⟩,List.Sublist.refl _,by show ed v.F<=_;omega,by show ed v.ms<=_;omega,by show 0+ed v.B<=600;have:=a.bn.len;omega,Aw _⟩
def DQ(wd:Int)(s:Zi):Zi:=Cs 7 s ⟨#[]⟩ 0 ⟨#[]⟩ [] wd
def DD(v:Vd)(u:UR):Vd:=⟨v.wd,v.J,v.ss,v.D++u.ds.map (DQ v.wd),v.P,v.G,v.H,v.E,u.B,v.ps,v.ls,u.I,u.F,u.ms,u.L,u.K,u.ro⟩
def OF(c:Int)(vs:Zj)(n:Int)(D:Value):Zj:=Zg c::(vs++[Zg n,D])
def z20(c:Int):Zj:=[Zg c,Ze,Ze,Zb,Zb,Ze,Ze,Ze,Ze,Zb,Zb,Zb,Ze,Zb,Zb,Ze,Ze,Ze,Ze,Zb]
def Aee(v:Vd)(o:Option (UR×Nat)):Prop:=∀p∈o,BY v/\Vs v.E v.B v.ps v.ls (4000 -ed (v.ss++v.D)) p.1
def LH(v:Vd)(o:Option (UR×Nat))(lo:Nat)(w:Zh)(cs:Zj):Prop:=
 match o with
 |none=>cs=z20 1
 |some (u,n)=>∃S U T P L Q M rs D,cs=OF 0 (AV (DD v u) S U T P L Q M) n D/\Ay w lo S U T P L Q M rs (DD v u)/\Ah w lo D u.ds/\∀g,Aj D=ai g->g∉DC S U T P L Q M rs
structure Si (w:Zh) (a:Va) (v:Vd):Prop where
 rows:Bg w w.1.size a v
 s:a.y=an->ed v.ss=0/\a.sc=0
 t:a.ta=an->ed v.D=0/\a.d=0
 q:Ir a.qa (ed v.F) a.qc
 m:Ir a.i (ed v.ms) a.mc
 k:∀A,a.W=ai A->Ic w A v.B
 p:a.Z=an->a.g=0
 l:a.X=an->a.e=0
 ls:ed v.ss<=1048576
 lt:ed v.D<=1048576
 lq:ed v.F<=100000000
 lm:ed v.ms<=100000000
 nk:ed v.B<=600
 np:ed v.ps<=100
 nl:ed v.ls<=200
 dz:∀k∈v.B,ed k.C<=30
theorem Si.A{d:Zh}{a:Va}(h:Si w a v)(c:Zz w d):Si d a v:=
 ⟨h.rows.U c,h.s,h.t,h.q,h.m,(λA e=>by have f:=h.k A e;have b:=h.rows.st.k;rw[e]at b;exact f.ak b c),h.p,h.l,h.ls,h.lt,h.lq,h.lm,h.nk,h.np,h.nl,h.dz⟩
theorem TP{a:Va}(h:Si w a v):
 D4 99 #[ca (ee (AV v (Cx a.y (ed v.ss) a.sc) (Cx a.ta (ed v.D) a.d) (Cx a.W (ed v.B) a.j) (Cx a.Z (ed v.ps) a.g) (Cx a.X (ed v.ls) a.e) (Cx a.qa (ed v.F) a.qc) (Cx a.i (ed v.ms) a.mc)))] w λe b=>∃(S U T P L Q M:Dg) (rs:Zj),e=C1 (ca (ee (AV v S U T P L Q M)))/\Ay b w.1.size S U T P L Q M rs v/\(∀u∈S::U::Q::M::T::P::L::rs,∃g n c,u=Yz g n c)/\Zz w b:=
 Rz v a w (λ_ b=>Vn _ _ (h.A b).rows.s (h.A b).rows.t h.s h.t h.ls h.lt) (λ_ b=>Kr _ _ _ _ _ _ _ (h.A b).rows.st (h.A b).k h.p h.l h.nk h.np h.nl h.dz) (λ_ b=>LA _ _ _ _ _ _ (h.A b).rows.q (h.A b).rows.m h.q.2 h.m.2 h.lq h.lm)
theorem Bc.kcp{s:Nat}{f:Zk}{w:Nat}{a:Zj}{c:C5}{u:C7}{t:C6}(h:Bc X s (Cx f n w) P L a c u t):∀A,f=ai A->Ic X A c:=λA d i k b v e=>by
 subst d;have o:=(Zw b).1;have p:i<ed a:=by rw[h.len];exact o
 have q:=Zv p;have d:=h.C i k _ b q;have r:(c.zip a)[i]?=ai (k,a[i]):=gG;have j:=Cy Jl r (show 3<4 by decide);rcases h.aw.2 with⟨b,_⟩|⟨g,x,y,b,_⟩
 .cases b
 cases b;have l:=h.aw.cellAt (i *4+3) Yv;rw[Ax,l,j]at e;have m:a[i]=Cw an k.C v:=by injection e
 rw[m]at d;exact Fs d rfl
structure Iu (w:Zh) (a:Va) (v:Vd):Prop where
 s:Ir a.y (ed v.ss) a.sc
 t:Ir a.ta (ed v.D) a.d
 q:Ir a.qa (ed v.F) a.qc
 m:Ir a.i (ed v.ms) a.mc
 k:∀A,a.W=ai A->Ic w A v.B
 p:a.Z=an->a.g=0
 l:a.X=an->a.e=0
 so:∃rs,Bc w 0 (bx a.W (ed v.B) a.j) (bx a.Z (ed v.ps) a.g) (bx a.X (ed v.ls) a.e) rs v.B v.ps v.ls/\∀g,Aj (bx a.ta (ed v.D) a.d)=ai g->g∉BJ (bx a.W (ed v.B) a.j) (bx a.Z (ed v.ps) a.g) (bx a.X (ed v.ls) a.e) rs
 tw:Ah w 0 (bx a.ta (ed v.D) a.d) v.D
def GL(v:Vd)(L:Nat)(X:Zh)(cs:Zj):Prop:=
 ∃a:Va,cs=AV v (bx a.y (ed v.ss) a.sc) (bx a.ta (ed v.D) a.d) (bx a.W (ed v.B) a.j) (bx a.Z (ed v.ps) a.g) (bx a.X (ed v.ls) a.e) (bx a.qa (ed v.F) a.qc) (bx a.i (ed v.ms) a.mc)/\Bg X L a v/\Iu X a v
theorem Sj{q e j c o m:Zk}{r i p:Nat}{b:Zj}(u:Ah X b1 (Cx q (ed v.ss) r) v.ss)(l:Ah X b2 (Cx e (ed v.D) f) v.D)(a:Bc X b3 (Cx j (ed v.B) k) (Cx h (ed v.ps) i) (Cx c (ed v.ls) d) b v.B v.ps v.ls)(t:Ah X b4 (Cx o (ed v.F) p) v.F)(s:Ah X b5 (Cx m (ed v.ms) n) v.ms)(w:∀g,Aj (Cx e (ed v.D) f)=ai g->g∉BJ (Cx j (ed v.B) k) (Cx h (ed v.ps) i) (Cx c (ed v.ls) d) b):
 GL v X.1.size X (AV v (Cx q (ed v.ss) r) (Cx e (ed v.D) f) (Cx j (ed v.B) k) (Cx h (ed v.ps) i) (Cx c (ed v.ls) d) (Cx o (ed v.F) p) (Cx m (ed v.ms) n)):=
 ⟨⟨q,r,e,f,j,k,h,i,c,d,o,p,m,n⟩,rfl,⟨u.ji,l.ji,a.get,t.ji,s.ji⟩,⟨u.cap,l.cap,t.cap,s.cap,a.kcp,Fs a.pins,Fs a.bh,⟨b,a.ah (Aw _),w⟩,l.ah (Aw _)⟩⟩
theorem Ay.jh{f:Zj}(h:Ay X a S U T P L Q M f v):GL v X.1.size X (AV v S U T P L Q M):=by obtain⟨s,u,c,q,m,b⟩:=h;obtain⟨A,B,rfl,i⟩:=s.row;obtain⟨E,F,rfl,j⟩:=u.row;obtain⟨C,D,w,x,o,p,rfl,rfl,rfl,k⟩:=c.rows;obtain⟨y,z,rfl,l⟩:=q.row;obtain⟨r,t,rfl,n⟩:=m.row;refine Sj s u c q m (λg e d=> ?_);unfold DC at b;exact(nodup_append.1 b).2.2 g (mem_append_right _ (A6.2 e)) g (mem_append_left _ d) rfl
theorem Ay.farb{d:Zh}(h:Ay d a S U T P L Q M i v)(k:n<=a)(e:Zz d X):∀V c,(∀b∈V,b<n)->Tn V X c->GL v c.1.size c (AV v S U T P L Q M):=λV c f hT=>by refine(h.stays (((Tn.of (V:=[]) e).ah Yu).ag hT) (λb g c=> ?_)).jh;have j:=h.lo b c;have:=f b g;omega
theorem Aef{e:Ed}{x l p n f u s:Zk}{y c q i w t:Nat}{b k:Zl}{d:Zj}(D:v.wd=v.P)(J:Ah X b1 (Cx x (ed v.ss) y) v.ss)(K:Ah X b2 (Cx l c m) b)(E:b=v.D++[e.cf v.wd])(F:c=ed b)(C:Bc X b3 (Cx p (ed r.B) q) (Cx n (ed r.ps) o) (Cx f (ed r.ls) i) d r.B r.ps r.ls)(I:Ah X b4 (Cx u j w) k)(B:k=shQ v.I r.B v.F v.ms (e.held r))(A:j=ed k)(H:Ah X b5 (Cx s (ed v.ms) t) v.ms)(z:∀g,Aj (Cx l c m)=ai g->g∉BJ (Cx p (ed r.B) q) (Cx n (ed r.ps) o) (Cx f (ed r.ls) i) d):
 GL (doV v e r) X.1.size X [Zg v.wd,Zg v.J,Cx x (ed v.ss) y,Cx l c m,Zg v.wd,Zg r.G,Zg r.H,Zg r.E,Cx p (ed r.B) q,Cx n (ed r.ps) o,Cx f (ed r.ls) i,Zg v.I,Cx u j w,Cx s (ed v.ms) t,Zg v.L,Zg v.K,Zg v.ro]:=by
 subst F A;subst E B;obtain⟨a,h,G⟩:=Sj (v:=doV v e r) (b1:=b1) (b2:=b2) (b3:=b3) (b4:=b4) (b5:=b5) J K C I H z;refine⟨a,?_,G⟩;rw[<-h];unfold AV doV;simp only[<-D]
def VE(v:Vd)(e:Ed)(w:Zh)(o:Ending)(w':Zh):Prop:=
 ∃d vs,Ex v e d/\o=.returned (ca (ee (dL d vs)))/\(∀V X',(∀b∈V,b<w.1.size)->Tn V w' X'->GL d.v X'.1.size X' vs)/\Zz w w'
theorem KQ{e:Ed}{c D:Zj}{d:Dd}(f:Aa X (w.1.size+2) Cu/\Zz w X)(l:∀V a,(∀b∈V,b<w.1.size+3)->Tn V X a->GL d.v a.1.size a c)(k:Ex v e d)(n:ed c=17/\∀u∈c,u.oneCell'=ay)(i:D=dL d c):
 (ed D=22/\∀u∈D,u.oneCell'=ay)/\X.there (w.1.size+2) 0 (ee D).size/\Aa (X.setCells (w.1.size+2) 0 (ee D).toList) (w.1.size+2) D/\VE v e w (.returned (ca (ee D))) (X.setCells (w.1.size+2) 0 (ee D).toList):=by
 have g:ed D=22/\∀u∈D,u.oneCell'=ay:=by rw[i];exact KO n
 have j:=Ap (w.1.size+2) D 0 X;refine⟨g,?_,f.1.ax D (by rw[g.1];rfl),d,c,k,by rw[i],λV a m hT=>l ((w.1.size+2)::V) a (λb a=> ?_) ((j.ah Yu).ag (hT.ah gA)),f.2.ag (j.A f.2.size Yu)⟩
 .rw[show (ee D).size=22 from by rw[Az];exact g.1];exact f.1.there
 rcases Bh.1 a with h|h
 .omega
 have:=m b h;omega
theorem Iu.cap{a:Va}(h:Iu w a v):TM a v:=⟨h.s.2,h.t.2,h.m.1⟩
theorem Iu.A{d:Zh}{a:Va}(h:Iu w a v)(g:Bg w w.1.size a v)(b:Zz w d):Iu d a v:=
 ⟨h.s,h.t,h.q,h.m,(λA e=>by have f:=h.k A e;have c:=g.st.k;rw[e]at c;exact f.ak c b),h.p,h.l,h.so.imp (λ_ h=>⟨h.1.A b,h.2⟩),h.tw.A b⟩
theorem Iu.cp{a:Va}(h:Iu w a v)(e:Bg w w.1.size a v)(b:DM v)(f:BY v):Si w a v:=by
 obtain⟨r,d⟩:=f;have c:=Aed d;have g:ed v.B<=600:=by have:=c.dl;unfold Eg at this;simp at this;omega
 exact⟨e,h.s.2,h.t.2,h.q,h.m,h.k,h.p,h.l,b.s,b.t,C8 b.r.q,C8 b.r.m,g,c.w.pl,c.w.ll,c.w.dz⟩
theorem YC(a:Int)(s:Zi):(DQ a s).size<=5000:=by
 unfold DQ;by_cases h:Ca 7 s ⟨#[]⟩ 0 ⟨#[]⟩ [] a=ay
 .exact Ed.dw (e:=⟨7,s,⟨#[]⟩,0,⟨#[]⟩,[]⟩) h
 unfold Cs;rw[if_neg h];exact Aw _
