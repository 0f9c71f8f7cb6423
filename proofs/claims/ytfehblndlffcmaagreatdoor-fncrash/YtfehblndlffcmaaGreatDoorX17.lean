import Derived.Test.YtfehblndlffcmaaGreatDoorX13
import Derived.Test.YtfehblndlffcmaaGreatDoorX16
set_option maxRecDepth 100000
set_option maxHeartbeats 16000000
open Option renaming some->an,none->ba
open Bool renaming true->bg,false->bq
open Go.RowKit renaming Below->bs
open Decidable renaming decide->bx
open Go.Obj renaming cells->ca
open Go.Value renaming slice->cr,agg->ct,bool->ef,ownBlock->ej
open Or renaming inl->dp,inr->eb
open List renaming length->eh,toArray->ei
open Go.World renaming cell?->ek,ownsRow->eo,setCell->ev
namespace Go.Proofs.YtfehblndlffcmaaGreatDoor
open ChangeShapes WideShapes ChangeAt RowKit _root_.Go.Proofs.Tryz List World Value
variable{w X:Zh}{o t B c i a b n e g D size m q p N b1 b2 b3 b4 b5:Nat}{l:Zj}{U T P L Q M:Value}{v:Vd}{d k f y:Int}{j u C x H:Zk}{s:Zi}{r:Rs}
def Fg:Zj:=[Ze,Ze,Ze,Zb,Zb,Ze,Ze,Ze,Ze,Zb,Zb,Zb,Ze,Zb,Zb,Ze,Ze,Ze,Zc,Ze,Zc,Zc]
theorem Aa.jm{t:TypeId}(h:w.1[o]?=an (ca (ei l) t (0,0))):Aa w o l:=λj v a=>by refine⟨?_,by simp[frozen?,h]⟩;simp[cell?,h];exact a
theorem Aa.dy:∀(vs l1 l2 l3:Zj) (w:Zh),Aa w B (l1++(l2++l3))->eh vs=eh l2->Aa (w.setCells B (eh l1) vs) B (l1++(vs++l3))
 |[],l1,[],l3,w,h,_=>h
 |v::r,l1,u::l2,l3,w,h,hl=>by have a:=h.set (eh l1) v;rw[show(l1++(u::l2++l3)).set (eh l1) v=(l1++[v])++(l2++l3) by simp]at a;have b:=Aa.dy r (l1++[v]) l2 l3 _ a gA;rw[Am,length_singleton,append_assoc,singleton_append,<-cons_append]at b;exact b
 |[],_,_::_,_,_,_,h=>by simp at h
 |_::_,_,[],_,_,_,h=>by simp at h
theorem Aa.cw(a c d:Zj)(h:Aa w B (a++(c++d))):w.there B (eh a) (eh c):=λj b=>by have b:=h (eh a+j) _ (Zv Yt);exact⟨by rw[b.1];rfl,b.2⟩
theorem AF.apart{S:D4}{i:Zj}(x:Ak w c S v.ss)(y:Ak w c U v.C)(n:∀g,Al S=an g->Al U≠an g)(j:Be w c T P L i v.B v.ps v.ls)(t:Ak w c Q v.H)(r:Ak w c M v.ms)(l:∀g,Al Q=an g->Al M≠an g)(z:∀g,Al S=an g\/Al U=an g->g∉BP T P L i)(p:∀g,Al Q=an g\/Al M=an g->g∉BP T P L i)(A:∀g d,Al S=an g\/Al U=an g->Al Q=an d\/Al M=an d->g≠d):AF w c S U T P L Q M i v:=by
 refine⟨x,y,j,t,r,?_⟩;have k:=j.nd;rw[FG]at k;unfold Df;generalize BP T P L i=B at *
 generalize Al S=s at *
 generalize Al U=u at *
 generalize Al Q=q at *
 generalize Al M=m at *
 have h:∀o:Option Nat,o.toList.Nodup:=gG;simp only[nodup_append,Bw,By];refine⟨⟨h _,h _,λa f b d e=>n a f (e▸d)⟩,⟨k,⟨h _,h _,λa f b d e=>l a f (e▸d)⟩,λa f b d e=>p b d (e▸f)⟩,λa f b d e=> ?_⟩;rcases d with d|d
 .exact gA
 exact gG
theorem Qh{a:Zi}(h:¬a=⟨#[]⟩):a.toList.isEmpty=bq:=by
 cases e:a.toList with
 |nil=>exact absurd (toList_inj (b:=⟨#[]⟩) N7) h
 |cons x l=>rfl
def dL(d:Dd)(vs:Zj):Zj:=Zg d.c::(vs++[.string d.s,Zg d.n,.string d.a,.string d.b])
theorem Aef{d:Dd}{a:Zj}(h:Aa X b (dL d a))(c:eh a=17):ek X (Zd b 0)=an (Zg d.c)/\ek X (Zd b 18)=an (C4 d.s)/\ek X (Zd b 19)=an (Zg d.n)/\ek X (Zd b 20)=an (C4 d.a)/\ek X (Zd b 21)=an (C4 d.b)/\X.rangeAt b 1 a:=by
 have e:∀j u,[C4 d.s,Zg d.n,C4 d.a,C4 d.b][j]?=an u->ek X (Zd b (18+j))=an u:=λj u f=>(h (18+j) u (by
  unfold dL;rw[show 18+j=(17+j)+1 by omega,getElem?_cons_succ,getElem?_append_right Yv,c,show 17+j -17=j by omega];exact f)).1
 exact⟨(h 0 _ rfl).1,e 0 _ rfl,e 1 _ rfl,e 2 _ rfl,e 3 _ rfl,Aa.dq [Zg d.c] a _ h⟩
theorem My{d:Dd}{b:Zj}(h:eh b=17/\∀u∈b,u.oneCell'=bg):eh (dL d b)=22/\∀u∈dL d b,u.oneCell'=bg:=by
 refine⟨by simp[dL,h.1],λu a=> ?_⟩;simp only[dL,Cf,Bw,not_mem_nil,or_false]at a;rcases a with rfl|a|rfl|rfl|rfl|rfl
 .rfl
 .exact h.2 u a
 .rfl
 .rfl
 .rfl
 rfl
theorem Aa.jw(h:Aa X b l)(c:eh l=n+1):b<X.1.size:=by
 cases l with
 |nil=>simp at c
 |cons a l=>exact h.lt
theorem OK{d:Dd}{a:Zj}(h:Aa X b (dL d a))(c:eh a=17):(ek X (Zd b 0)=an (Zg d.c)/\X.frozen? ⟨b,0,ba⟩=bq)/\(ek X (Zd b 20)=an (C4 d.a)/\X.frozen? ⟨b,20,ba⟩=bq)/\ek X (Zd b 21)=an (C4 d.b)/\X.frozen? ⟨b,21,ba⟩=bq:=by obtain⟨m,n,o,p,q,r,s,t,u,v,e,f,g,i,j,k,l,rfl⟩:=IY c;exact⟨h 0 _ rfl,h 20 _ rfl,h 21 _ rfl⟩
theorem Nh{d:Dd}{a:Zj}(h:Aa X b (dL d a))(c:Int):Aa (ev X (Zd b 0) (Zg c)) b (dL ⟨c,d.v,d.s,d.n,d.a,d.b⟩ a):=h.set 0 _
theorem Aax{d:Dd}{a:Zj}(h:Aa X b (dL d a))(e:eh a=17)(c:Int)(p q:Zi):Aa (ev (ev (ev X (Zd b 0) (Zg c)) (Zd b 20) (C4 p)) (Zd b 21) (C4 q)) b (dL ⟨c,d.v,d.s,d.n,p,q⟩ a):=by obtain⟨n,o,r,s,t,u,v,w,x,y,f,g,i,j,k,l,m,rfl⟩:=IY e;exact((h.set 0 _).set 20 _).set 21 _
def Kx(v:Vd)(e:Ed)(Z:Rs->Zk->Nat->Zk->Nat->Zk->Nat->Zh->Prop)(X:Zh)(ch:Zj):Prop:=
 (∃c p q,e.no v c p q/\ch=Cr c p q)\/∃r ta tc pa pc la lc,e.yes v r/\ch=[Ze,Zg v.wd,Zg r.F,Zg r.G,Zg r.E,cr ta (eh r.B) tc,cr pa (eh r.ps) pc,cr la (eh r.ls) lc,.string r.sm,Zg r.le,Zc,Zc]/\Z r ta tc pa pc la lc X
theorem Kx.small{e:Ed}{Z:Rs->Zk->Nat->Zk->Nat->Zk->Nat->Zh->Prop}{a:Zj}(h:Kx v e Z X a):eh a=12/\∀u∈a,u.oneCell'=bg:=by
 rcases h with⟨c,p,q,_,rfl⟩|⟨r,i,j,f,g,b,d,_,rfl,_⟩
 .exact⟨rfl,by simp[Cr,oneCell']⟩
 exact⟨rfl,by simp[oneCell']⟩
theorem AF.co{d:Zh}{S:D4}{i:Zj}(h:AF d a S U T P L Q M i v)(k:n<=a)(e:Zz d X):∀V c,(∀b∈V,b<n)->Tn V X c->VRa v c.1.size c (Bd v S U T P L Q M):=λV c f hT=>by refine(h.stays (((Tn.of (V:=[]) e).ai Yu).ag hT) (λb g c=> ?_)).jl;have j:=h.lo b c;have:=f b g;omega
theorem AF.ap{S:D4}{d:Zj}(h:AF w a S U T P L Q M d v):(∀g,Al U=an g->Al S≠an g)/\∀g,Al U=an g->Al Q≠an g/\Al M≠an g:=by
 have b:=h.nd;unfold Df at b;generalize BP T P L d=B at *
 simp only[nodup_append,Bw,By]at b;refine⟨λg c e=>b.1.2.2 g e g c rfl,λg c=>⟨λc=> ?_,λc=> ?_⟩⟩
 .exact gG
 exact gG
section
structure CT (w:Zh) (base b:Nat) (ta pa la:Zk) (pc lc:Nat) (zs:List (Kd×Value)) (ps:List Pd) (ls:List Ld):Prop where
 tb:ta=an ⟨b,0,ba⟩\/zs=[]
 z:Bs w b 0 zs
 bl:b<w.1.size
 po:eo w base 81 2 (cr pa (eh ps) pc) (eh ps) (Ad pC ps)
 lo:eo w base 83 3 (cr la (eh ls) lc) (eh ls) (Ad lC ls)
 lb:base<=w.1.size
 bL:an b≠ej (Value.slice la (eh ls) lc)
 pL:∀g,ej (Value.slice pa (eh ps) pc)=an g->ej (Value.slice la (eh ls) lc)≠an g
 zL:∀z∈zs,∀ad n rc,z.2=cr (an ad) n rc->z.1.D≠[]->an ad.block≠ej (Value.slice la (eh ls) lc)
 zb:zs=[]\/base<=b
 zr:∀z∈zs,∀ad n rc,z.2=cr (an ad) n rc->z.1.D≠[]->base<=ad.block
def NY(base:Nat)(L:Value)(wd now given births:Int)(ks:List Kd)(ps:List Pd)(ls:List Ld)(kd:Int)(s nm:Zi)(num:Int)(text:Zi)(refs:Zl)(w:Zh)(e:Ending)(w':Zh):Prop:=
 Tn (ej L).toList w w'/\(
  (∃c a b,GR wd now given births ks ps ls kd s nm num text refs c a b/\e=.returned (ct (ei (Cr c a b))))\/
  (∃r b1 ta1 tc1 zs1 pa1 pc1 la1 lc1,EI wd now given births ks ps ls kd s nm num text refs r/\e=.returned (ct #[Ze,Zg wd,Zg r.F,Zg r.G,Zg r.E,cr ta1 (eh r.B) tc1,cr pa1 (eh r.ps) pc1,cr la1 (eh r.ls) lc1,.string r.sm,Zg r.le,Zc,Zc])/\zs1.map (·.1)=r.B/\CT w' base b1 ta1 pa1 la1 pc1 lc1 zs1 r.ps r.ls))
theorem CT.A{k:Zh}{base:Nat}{f c:Zk}{d:Nat}{l:List (Kd×Value)}{i:Db}{e:Da}(h:CT w base b j f c g d l i e)(a:Zz w k):CT k base b j f c g d l i e:=
 ⟨h.tb,h.z.A a h.bl,Zr h.bl a.size,Ah h.po a,Ah h.lo a,Zm h.lb a.size,h.bL,h.pL,h.zL,h.zb,h.zr⟩
theorem CT.dt{c f:Zk}{k:Nat}{d:List (Kd×Value)}{l:Db}{i:Da}(h:CT w a b c j f k g d l i):Br w w.1.size c (d.map (·.1)):=by
 rcases h.tb with e|e
 .rw[e];exact h.z.dt h.bl
 rw[e];exact dp rfl
theorem CT.gz{c e:Zk}{f:Nat}{k:List (Kd×Value)}{d:Db}{g:Da}(h:CT w a b j c e i f k d g):AS w w.1.size c d:=AS.own h.po
theorem CT.gw{f c:Zk}{k:List (Kd×Value)}{i:Db}{d:Da}(h:CT w a b j f c g e k i d):AR w w.1.size c d:=AR.own h.lo
theorem CT.im{k s e:Zk}{f:Nat}{l:List (Kd×Value)}{u:Db}{i:Da}(h:CT w a b k s e t f l u i){d:Db}(j:eo w n 81 2 (Yz g (eh d) c) (eh d) (Ad pC d))(p:a<=n)(o:∀q,ej (C3 e (eh i) f)=an q->q<n):CT w a b k (an ⟨g,0,ba⟩) e c f l d i:=
 ⟨h.tb,h.z,h.bl,j.ai p,h.lo,h.lb,h.bL,λq r m=>by have v:=(Ac j r).1;have r:=o q m;omega,h.zL,h.zb,h.zr⟩
theorem CT.ir{r i:Zk}{j:Nat}{o:List (Kd×Value)}{k:Db}{E:Da}(h:CT w a b r i C j D o k E){d:Da}(p:eo w n 83 3 (Yz g (eh d) c) (eh d) (Ad lC d))(x:a<=n)(F:b<n)(y:∀q,ej (C3 i (eh k) j)=an q->q<n)(B:∀z∈o,∀f m l,z.2=C3 (an f) m l->z.1.D≠[]->f.block<n):CT w a b r i (an ⟨g,0,ba⟩) j c o k d:=by
 have G:=(Ac p (g:=g) rfl).1;refine⟨h.tb,h.z,h.bl,h.po,p.ai x,h.lb,λe=> ?_,λq A e=> ?_,λz s f m l t u e=> ?_,h.zb,h.zr⟩
 .have:b=g:=Hn;omega
 .have v:g=q:=Hn;have:=y q A;omega
 have v:f.block=g:=Hn;have:=B z s f m l t u;omega
theorem CT.db{o g d:Zk}{k:List (Kd×Value)}{j:Db}{f:Da}(h:CT w a b o g d i e k j f):(∀q,ej (C3 g (eh j) i)=an q->q<w.1.size)/\(∀q,ej (C3 d (eh f) e)=an q->q<w.1.size)/\∀z∈k,∀c m l,z.2=C3 (an c) m l->z.1.D≠[]->c.block<w.1.size:=
 ⟨λ_ c=>(Ac h.po c).2,λ_ c=>(Ac h.lo c).2,λ_ n _ _ _ c l=>h.z.cu n c l⟩
theorem DF{e:TypeId}{a:Zk}{i:Zj}(h:eo w b e size (C3 a m c) n i)(f:a=ba):c=0:=by
 rcases h.2 with⟨d,_⟩|⟨g,j,k,d,_⟩
 .injection d
 injection d with e1;rw[f]at e1;cases e1
theorem El{c:Zh}{e:TypeId}{v:D4}{d:Zj}(h:eo w a e size v n d)(f:Tn [q] w c)(i:q<a):eo c a e size v n d:=
 Ar h (λg b=>f.block g (Ac h b).2 (by have:=(Ac h b).1;simp;omega))
theorem NZ{w':Zh}{e:TypeId}{v:D4}{c:Zj}(h:eo w a e size v n c)(f:Tn [q] w w')(d:∀g,ej v=an g->g≠q):eo w' a e size v n c:=
 Ar h (λg b=>f.block g (Ac h b).2 (by simp;exact d g b))
theorem Cm{d a:Zh}(b:Zz w X)(c:Zz X d)(e:Tn [w.1.size+2] d a):bs w.1.size w a:=
 (b.ag (c.ai b.size)).ag (e.A (Zm b.size c.size) (by intro v f;simp at f;omega))
theorem OD(z f b a k g:Int){i:Zk}(p l t:Zk)(y r q n m x u:Nat){d:C9}(s o c:Zi)(B:Br w w.1.size i d)(zB:eh d<=1000)(C:¬AA d s):
 D8 77 #[ct (Yg z f b a i (eh d) y p r q l n m),ct (Ye k s o g c t x u)] w λe h=>e=C5 (ct (ei (Cr 2 ⟨#[]⟩ ⟨#[]⟩)))/\Zz w h:=by
 have⟨W,h⟩:=Ag (((w.alloc (ca (Yg z f b a i (eh d) y p r q l n m) 30)).alloc (ca (Ye k s o g c t x u) 91)).alloc (ca Yd 42));have A:=(BI h).1;have F:=(BI h).2.2.1;have H:Aa W (w.1.size+1) (Xz k s o g c t x u):=by have j:=Aa.new (w.alloc (ca (Yg z f b a i (eh d) y p r q l n m) 30)) (Xz k s o g c t x u) 91;rw[Ao]at j;rw[h];exact Aa.A j (Zy)
 have G:Aa W (w.1.size+2) z12:=by have j:=Aa.new ((w.alloc (ca (Yg z f b a i (eh d) y p r q l n m) 30)).alloc (ca (Ye k s o g c t x u) 91)) z12 42;rw[Ao,Ao]at j;rw[h];exact j
 obtain⟨D,zA,E,I,⟨v0,K,L,M,N,O,P,Q⟩,J,_⟩:=Yw (Dt z f b a i y (C3 p r q) (C3 l n m) d s W w.1.size (Br.A B A) A.size Yv),Ja C,Yw h,Yw G,Bi F,H 1 _ rfl;clear h F G H B C;delta D8;go_in;go_upto_region 1 with fail;rw[<-E.o];clear E;go_wp2_with fail;refine D.Aj ?_;rintro e F ⟨rfl,h⟩;obtain⟨⟨G,q0⟩,⟨H,q1⟩,⟨R,q2⟩,⟨S,q3⟩,⟨T,q4⟩,⟨U,q5⟩,⟨V,q6⟩,⟨X,q7⟩,⟨Y,q8⟩,⟨Z,q9⟩,⟨C,zC⟩,E,zE⟩:=Bv (Aa.A (v:=Ze) I h);have B:=A.ag (h.ai A.size);generalize CC d s=fi at *
 clear v0 K L M N O P Q D J;go_wp2;refine C1 (ct (ei (Cr 2 ⟨#[]⟩ ⟨#[]⟩))) (by simp[results,results77,go_sem,G,H,R,S,T,U,V,X,Y,Z,C,E,Cr]) ?_;exact⟨rfl,B.ag (Tn.A (BB F (w.1.size+2) _ _ _ _ _ _ _ _ _ _ _ _) B.size gA)⟩
theorem Rk{a:Db}{n:Zi}(s:Zi)(h:¬∃x∈a,x.name=n):eh (Bn a n s)=eh a+1:=by
 have c:∀(l:Db),(¬∃x∈l,x.name=n)->eh (l.filter (λx=>less x.name n))+eh (l.filter (λx=> !(less x.name n)&& !bx (x.name=n)))=eh l:=by
  intro l;induction l with
  |nil=>intro _;rfl
  |cons x l ih=>intro b;have d:x.name≠n:=gA;have:=ih (λ⟨y,hy,e⟩=>b ⟨y,by simp[hy],e⟩);cases b:less x.name n<;>simp[b,d]<;>omega
 have:=c a h;unfold Bn;rw[Am,Am];simp;omega
def Afi(wd now given births num:Int)(zs:List (Kd×Value))(ps:List Pd)(ls:List Ld)(s:Zi)(X:Zh)(e:Ending)(w':Zh):Prop:=
 bs X.1.size X w'/\(((eh ls=200\/given=1000000000)/\e=.returned (ct (ei (Cr 4 ⟨#[]⟩ ⟨#[]⟩))))\/
  ((eh ls<200/\given<1000000000)/\∃b1 tc1 zs1 p1 pc1 g c,e=.returned (ct #[Ze,Zg wd,Zg now,Zg (given+1),Zg births,cr (an ⟨b1,0,ba⟩) (eh zs) tc1,cr (an ⟨p1,0,ba⟩) (eh ps) pc1,cr (an ⟨g,0,ba⟩) (eh ls+1) c,Zc,Zg (given+1),Zc,Zc])/\zs1.map (·.1)=zs.map (·.1)/\eo w' X.1.size 78 4 (cr (an ⟨b1,0,ba⟩) (eh zs1) tc1) (eh zs1) (Ad kC zs1)/\(∀z∈zs1,∃g' c',z.2=cr (an ⟨g',0,ba⟩) (eh z.1.D) c'/\eo w' X.1.size 9 1 z.2 (eh z.1.D) (z.1.D.map Value.string))/\eo w' X.1.size 81 2 (cr (an ⟨p1,0,ba⟩) (eh ps) pc1) (eh ps) (Ad pC ps)/\eo w' X.1.size 83 3 (cr (an ⟨g,0,ba⟩) (eh ls+1) c) (eh (ls++[(⟨given+1,s,now+num⟩:Ld)])) (Ad lC (ls++[(⟨given+1,s,now+num⟩:Ld)]))/\b1≠g/\p1≠g/\∀z∈zs1,∀ad n rc,z.2=cr (an ad) n rc->ad.block≠g))
theorem Bs.some{d:List (Kd×Value)}(h:Bs w b a d):EY w ⟨b,a,ba⟩ (d.map (·.1)):=by intro i k c;rw[getElem?_map]at c;obtain⟨z,j,rfl⟩:=Option.map_eq_some_iff.1 c;have⟨⟨_,_,_,f⟩,e,l,g,_⟩:=h i z j;exact⟨e,l,by rw[f,g]⟩
theorem Qi{T P L:Option Nat}{R:List Nat}{l:Nat}(h:(T.toList++(P.toList++(L.toList++R))).Nodup)(a:L=an l):T≠an l/\P≠an l/\l∉R:=by subst a;cases T<;>cases P<;>simp_all<;>grind
theorem XC{x j a:Int}{v A n:Zk}(z:Nat){l:List (Kd×Value)}{m:Db}{k:Da}(s t:Zi){i:Zi}{u:Int}{f:Zl}(G:Zk)(H:Nat)(h:CT w p b v A n B o l m k)(K:IH x j d a (l.map (·.1)) m k 3 u i f):
 D8 45 #[ct (Yg x j d a v (eh l) z A (eh m) B n (eh k) o),ct (Ye 3 s t u i G (eh f) H)] w (NY p (C3 n (eh k) o) x j d a (l.map (·.1)) m k 3 s t u i f w):=by
 refine DI 3 78 _ x j d a v A n (eh l) z (eh m) B (eh k) o s t i u G (eh f) H w [] (λX e E=>RO X E e x j d a (C2 v l z) (C2 n k o) m t) _ (eb (eb (dp ⟨rfl,rfl,rfl⟩))) Yu (λX r _=>Rd x j d a v n (eh l) z (eh k) o B t (h.A r).gz (Dl K.np)) ?_ ?_
 .rintro X e E ⟨y,⟨_,rfl⟩|⟨_,g,c,rfl,_⟩⟩
  .exact⟨Tn.of y,_,_,_,_,_,_,_,_,_,_,_,_,_,_,_,_,_,_,rfl⟩
  exact⟨Tn.of y,_,_,_,_,_,_,_,_,_,_,_,_,_,_,_,_,_,_,rfl⟩
 rintro X e E O r P ⟨y,⟨I,rfl⟩|⟨C,g,c,rfl,M⟩⟩ D
 .exact⟨Tn.of (Cm r y D),dp ⟨5,_,_,eb ⟨rfl,rfl,eb (dp ⟨rfl,I,rfl⟩)⟩,rfl⟩⟩
 have F:=Cm r y D;have L:=h.A F;have J:=El M D Yv;exact⟨Tn.of F,eb ⟨⟨⟨#[]⟩,0,j,d,a,l.map (·.1),Bh m t,k⟩,b,v,z,l,_,c,n,o,eb (eb (dp ⟨rfl,C,rfl⟩)),by rw[B0],rfl,L.im J (Zm h.lb r.size) (λq N=>Zr (h.db.2.1 q N) r.size)⟩⟩
theorem XD{B:Zk}(D:Nat){v C:Nat}{o:List (Kd×Value)}{r:Db}{m:Da}(s G:Zi){j:Zi}{l:Int}{i:Zl}(K:Zk)(L:Nat)(h:CT w t b x u B v C o r m)(Q:IH y k f d (o.map (·.1)) r m 5 l j i):
 D8 45 #[ct (Yg y k f d x (eh o) D u (eh r) v B (eh m) C),ct (Ye 5 s G l j K (eh i) L)] w (NY t (C3 B (eh m) C) y k f d (o.map (·.1)) r m 5 s G l j i w):=by
 refine DI 5 81 _ y k f d x u B (eh o) D (eh r) v (eh m) C s G j l K (eh i) L w [] (λX e H=>Vl X H e y k f d (C2 x o D) (C2 u r v) m l) _ (eb (eb (eb (dp ⟨rfl,rfl,rfl⟩)))) Yu (λX p _=>Tl y k f d x u (eh o) D (eh r) v C l (h.A p).gw (Dl Q.nl)) ?_ ?_
 .rintro X e H ⟨A,⟨_,rfl⟩|⟨_,g,c,rfl,_⟩⟩
  .exact⟨Tn.of A,_,_,_,_,_,_,_,_,_,_,_,_,_,_,_,_,_,_,rfl⟩
  exact⟨Tn.of A,_,_,_,_,_,_,_,_,_,_,_,_,_,_,_,_,_,_,rfl⟩
 rintro X e H T p J ⟨A,⟨M,rfl⟩|⟨E,g,c,rfl,S⟩⟩ F
 .exact⟨Tn.of (Cm p A F),dp ⟨5,_,_,eb ⟨rfl,rfl,eb (eb (eb (dp ⟨rfl,M,rfl⟩)))⟩,rfl⟩⟩
 have I:=Cm p A F;have R:=h.A I;have N:=El S F Yv;exact⟨Tn.of I,eb ⟨⟨⟨#[]⟩,0,k,f,d,o.map (·.1),r,BD m l⟩,b,x,D,o,u,v,_,c,eb (eb (eb (eb (dp ⟨rfl,E,rfl⟩)))),by rw[B0],rfl,R.ir N (Zm h.lb p.size) (Zr h.bl p.size) (λq O=>Zr (h.db.1 q O) p.size) (λz J a n c O P=>Zr (h.db.2.2 z J a n c O P) p.size)⟩⟩
theorem XE{i:Int}(E:Nat){v:Nat}{o:List (Kd×Value)}{r:Db}{m:Da}(s H:Zi){l:Zi}{j:Int}{k:Zl}(L:Zk)(M:Nat)(h:CT w t b x u C v D o r m)(A:IH y i f d (o.map (·.1)) r m 6 j l k):
 D8 45 #[ct (Yg y i f d x (eh o) E u (eh r) v C (eh m) D),ct (Ye 6 s H j l L (eh k) M)] w (NY t (C3 C (eh m) D) y i f d (o.map (·.1)) r m 6 s H j l k w):=by
 refine DI 6 82 _ y i f d x u C (eh o) E (eh r) v (eh m) D s H l j L (eh k) M w [] (λX e I=>Vq X I e y i f d (C2 x o E) (C2 u r v) m j) _ (eb (eb (eb (eb (dp ⟨rfl,rfl,rfl⟩))))) Yu (λX p _=>Tt y i f d x u (eh o) E (eh r) v D j (h.A p).gw (Dl A.nl) A.dm A.dj A.gq A.gy) ?_ ?_
 .rintro X e I ⟨B,⟨_,rfl⟩|⟨_,g,c,rfl,_⟩⟩
  .exact⟨Tn.of B,_,_,_,_,_,_,_,_,_,_,_,_,_,_,_,_,_,_,rfl⟩
  exact⟨Tn.of B,_,_,_,_,_,_,_,_,_,_,_,_,_,_,_,_,_,_,rfl⟩
 rintro X e I T p K ⟨B,⟨N,rfl⟩|⟨F,g,c,rfl,S⟩⟩ G
 .exact⟨Tn.of (Cm p B G),dp ⟨4,_,_,eb ⟨rfl,rfl,eb (eb (eb (eb (dp ⟨rfl,N,rfl⟩))))⟩,rfl⟩⟩
 have J:=Cm p B G;have R:=h.A J;have O:=El S G Yv;exact⟨Tn.of J,eb ⟨⟨⟨#[]⟩,0,i+j,f,d,o.map (·.1),r,AT m (i+j)⟩,b,x,E,o,u,v,_,c,eb (eb (eb (eb (eb (dp ⟨rfl,F,rfl⟩))))),by rw[B0],rfl,R.ir O (Zm h.lb p.size) (Zr h.bl p.size) (λq P=>Zr (h.db.1 q P) p.size) (λz K a n c P Q=>Zr (h.db.2.2 z K a n c P Q) p.size)⟩⟩
theorem XF{a:Int}{v t:Zk}(z:Nat){u:Nat}{l:List (Kd×Value)}{j:Db}{o:Da}(s m:Zi){i:Zi}{p:Int}{f:Zl}(I:Zk)(J:Nat)(h:CT w B b v C t D u l j o)(G:IH y k d a (l.map (·.1)) j o 2 p i f):
 D8 45 #[ct (Yg y k d a v (eh l) z C (eh j) D t (eh o) u),ct (Ye 2 s m p i I (eh f) J)] w (NY B (C3 t (eh o) u) y k d a (l.map (·.1)) j o 2 s m p i f w):=by
 have L:eh (l.map (·.1))<=1000:=Dl G.bk.len;by_cases hth:AA (l.map (·.1)) s
 .refine DI 2 77 _ y k d a v C t (eh l) z (eh j) D (eh o) u s m i p I (eh f) J w [] (λX e A=>YN X A e y k d a (C2 v l z) (C2 t o u) j m s) _ (eb (dp ⟨rfl,rfl,rfl⟩)) Yu (λX n _=> ?_) ?_ ?_
  .have F:=Vn y k d a 2 p t I z D u (eh o) (eh f) J m i (h.A n).dt (h.A n).gz L (Dl G.np) hth G.cg;rw[B0]at F;exact F
  .rintro X e A ⟨r,⟨_,rfl⟩|⟨_,g,c,rfl,_⟩⟩
   .exact⟨Tn.of r,_,_,_,_,_,_,_,_,_,_,_,_,_,_,_,_,_,_,rfl⟩
   exact⟨Tn.of r,_,_,_,_,_,_,_,_,_,_,_,_,_,_,_,_,_,_,rfl⟩
  rintro X e A Q n U ⟨r,⟨V,rfl⟩|⟨R,g,c,rfl,T⟩⟩ H
  .have N:=Ln j m s;have O:¬∃x∈j,x.name=m:=λK=>by have:=N.2 K;have:=G.np;omega
   exact⟨Tn.of (Cm n r H),dp ⟨4,_,_,eb ⟨rfl,rfl,dp ⟨rfl,eb ⟨hth,O,by have:=N.1;have:=G.np;omega,rfl⟩⟩⟩,rfl⟩⟩
  have M:=Cm n r H;have S:=h.A M;have P:=El T H Yv;have E:(∃x∈j,x.name=m)\/eh j<100:=by
   by_cases K:∃x∈j,x.name=m
   .exact dp K
   have:=Rk s K;exact eb Yv
  exact⟨Tn.of M,eb ⟨⟨⟨#[]⟩,0,k,d,a,l.map (·.1),Bn j m s,o⟩,b,v,z,l,_,c,t,u,eb (dp ⟨rfl,hth,E,rfl⟩),by rw[B0],rfl,S.im P (Zm h.lb n.size) (λq K=>Zr (h.db.2.1 q K) n.size)⟩⟩
 refine DI 2 77 _ y k d a v C t (eh l) z (eh j) D (eh o) u s m i p I (eh f) J w [] (λX e A=>e=C5 (ct (ei (Cr 2 ⟨#[]⟩ ⟨#[]⟩)))/\Zz X A) _ (eb (dp ⟨rfl,rfl,rfl⟩)) Yu (λX n _=> ?_) ?_ ?_
 .have F:=OD y k d a 2 p C t I z (eh j) D (eh o) u (eh f) J s m i (h.A n).dt L hth;rw[B0]at F;exact F
 .rintro X e A ⟨rfl,r⟩;exact⟨Tn.of r,_,_,_,_,_,_,_,_,_,_,_,_,_,_,_,_,_,_,rfl⟩
 rintro X e A Q n U ⟨rfl,r⟩ H;exact⟨Tn.of (Cm n r H),dp ⟨2,_,_,eb ⟨rfl,rfl,dp ⟨rfl,dp ⟨hth,rfl⟩⟩⟩,rfl⟩⟩
theorem XG{L:Nat}{Q j:Int}{ta pa Z:Zk}(tc:Nat){pc lc:Nat}{m:List (Kd×Value)}{H:Db}{p:Da}(s nm:Zi){D:Zi}{o:Int}{C:Zl}(ra:Zk)(rc:Nat)(h:CT w L b ta pa Z pc lc m H p)(t:IH Q j d f (m.map (·.1)) H p 4 o D C)(zN:∀k∈m.map (·.1),eh k.D<=30):
 D8 45 #[ct (Yg Q j d f ta (eh m) tc pa (eh H) pc Z (eh p) lc),ct (Ye 4 s nm o D ra (eh C) rc)] w (NY L (C3 Z (eh p) lc) Q j d f (m.map (·.1)) H p 4 s nm o D C w):=by
 have zP:eh (m.map (·.1))<=600:=t.bk.len;refine OC Q j d f ta pa Z (eh m) tc (eh H) pc (eh p) lc s nm D o ra (eh C) rc w (CC (m.map (·.1)) s) (Afi Q j d f o m H p s) _ (λX F=> ?_) (λh0 X F B=> ?_) ?_ ?_ ?_
 .have h1:=Dt Q j d f ta tc (C3 pa (eh H) pc) (C3 Z (eh p) lc) (m.map (·.1)) s X X.1.size (h.A F).dt (Zx) Yv;rw[B0]at h1;exact h1
 .have E:=h.A F;have h1:=Jm Q j d f ta pa Z tc pc lc (m.map (·.1)) H p X ⟨E.dt,E.gz,E.gw⟩ (λA r=>by
   rcases E.tb with e|e
   .rw[e]at r;cases r;exact E.z.some
   rw[e];intro i k hk;simp at hk) (DF E.po) (DF E.lo) zP t.np t.nl zN
  rw[B0]at h1;refine h1.ai ?_;rintro e w' ⟨T,P',L',rs,rfl,hS,U,u⟩;obtain⟨M,n1,S,rfl⟩:=U T Yu;obtain⟨W,n2,R,rfl⟩:=U P' Yu;obtain⟨V,n3,zW,rfl⟩:=U L' Yu;obtain⟨_,_,x⟩:=Au hS.ak;obtain⟨_,_,O⟩:=Au hS.pins;obtain⟨_,_,e3⟩:=Au hS.ax;cases x;cases O;cases e3;refine⟨⟨_,_,_,_,_,_,_,_,_,rfl,λY K=> ?_⟩,u⟩;refine(IP Q j d f (an ⟨M,0,ba⟩) (an ⟨W,0,ba⟩) (an ⟨V,0,ba⟩) _ S (eh H) R zW p s o (Ah hS.ax K) (Zm u.size K.size) (Dl t.nl) t.bu t.br t.dm t.dj t.gq t.gy).ai ?_;rintro e w3 ⟨G,zE⟩;have yA:X.1.size<=V:=(Ac hS.ax rfl).1;have zO:bs X.1.size X w3:=(u.ag (K.ai u.size)).ag (G.A (Zm u.size K.size) (by intro v U;simp[ownBlock]at U;omega));refine⟨zO,?_⟩;rcases zE with⟨I,rfl⟩|⟨⟨zC,Y⟩,g,c,rfl,ho,zB⟩
  .exact dp ⟨by have:=t.nl;have:=t.br;omega,rfl⟩
  have zF:=hS.nd;rw[FG]at zF;unfold BP at zF;obtain⟨n1,n2,n3⟩:=Qi zF (l:=V) rfl;have r:∀{e:TypeId} {size:Nat} {v:D4} {n:Nat} {xs:Zj},eo w' X.1.size e size v n xs->ej v≠an V->eo w3 X.1.size e size v n xs:=λ{e size v n xs} ho1 hne=>Ar (Ah ho1 K) (λq hq=>G.block q (Ac (Ah ho1 K) hq).2 (λe=>by simp[ownBlock]at e;exact hne gA));have hlen:eh ((m.map (·.1)).zip rs)=eh m:=by rw[length_zip,hS.len,B0];omega
  refine eb ⟨⟨zC,Y⟩,M,S,(m.map (·.1)).zip rs,W,R,g,c,Yu,?_,?_,?_,r hS.pins n2,ho,?_,?_,?_⟩
  .rw[map_fst_zip (by rw[hS.len];exact Zx)]
  .have h2:=r hS.ak n1;rw[hlen];rw[B0]at h2;exact h2
  .intro z B;have⟨i,y⟩:=A9 B;rw[getElem?_zip_eq_some]at y;have hr:=hS.D i z.1 z.2 y.1 y.2;obtain⟨⟨J,n',A,N⟩,a',zY,zJ⟩:=U z.2 (by simp;exact eb (eb (eb (Zs y.2)))),Au hr;rw[N]at zJ;cases zJ;refine⟨J,A,N,r hr (λe=>n3 ?_)⟩;exact mem_filterMap.2 ⟨z.2,Zs y.2,e⟩
  .have q1:=(Ac hS.ak (g:=M) rfl).2;have q2:=K.size;rcases zB with P|P
   .have x:V=g:=(by simpa [ownBlock]using P);intro e;exact n1 Fo
   omega
  .have q1:=(Ac hS.pins (g:=W) rfl).2;have q2:=K.size;rcases zB with P|P
   .have x:V=g:=(by simpa [ownBlock]using P);intro e;exact n2 Fo
   omega
  intro z B a n' A O;have⟨i,y⟩:=A9 B;rw[getElem?_zip_eq_some]at y;have hr:=hS.D i z.1 z.2 y.1 y.2;obtain⟨J,m',d',e3⟩:=U z.2 (by simp;exact eb (eb (eb (Zs y.2))));rw[e3]at O;cases O;have q1:=(Ac hr (g:=J) (by rw[e3];rfl)).2;have q2:=K.size;show J≠g;rcases zB with P|P
  .have x:V=g:=(by simpa [ownBlock]using P);intro e;exact n3 (mem_filterMap.2 ⟨z.2,Zs y.2,by rw[e3];simp[ownBlock];omega⟩)
  omega
 .rintro X e w' F ⟨u,⟨_,rfl⟩|⟨_,M,S,zG,W,R,g,c,rfl,_⟩⟩
  .exact⟨u,_,_,_,_,_,_,_,_,_,_,_,_,_,_,_,_,_,_,rfl⟩
  exact⟨u,_,_,_,_,_,_,_,_,_,_,_,_,_,_,_,_,_,_,rfl⟩
 .intro zX w' u;have K:¬AA (m.map (·.1)) s:=λG=>by have⟨i,k,e,_⟩:=Nd G;omega
  exact⟨Tn.of u,dp ⟨2,_,_,eb ⟨rfl,rfl,eb (eb (dp ⟨rfl,dp ⟨K,rfl⟩⟩))⟩,rfl⟩⟩
 rintro h0 X e w' zM F B ⟨u,hQ⟩ G;have K:AA (m.map (·.1)) s:=Classical.byContradiction λhn=>Dl (Ja hn);have hB:=Cm F u G;rcases hQ with⟨I,rfl⟩|⟨⟨zC,Y⟩,M,S,zG,W,R,g,c,rfl,hm,hk,zK,zT,zE,zH,zI,zU⟩
 .exact⟨Tn.of hB,dp ⟨4,_,_,eb ⟨rfl,rfl,eb (eb (dp ⟨rfl,eb ⟨K,I,rfl⟩⟩))⟩,rfl⟩⟩
 have zA:=El hk G Yv;have zS:=El zT G Yv;have zZ:=El zE G Yv;have zV:Bs zM M 0 zG:=Bs.own zA (λz B=>by
  have⟨J,A,N,ho⟩:=zK z B;rw[N]at ho;exact⟨⟨J,0,ba⟩,A,N,Ab.own (El ho G Yv)⟩)
 refine⟨Tn.of hB,eb ⟨⟨⟨#[]⟩,d+1,j,d+1,f,m.map (·.1),H,p++[⟨d+1,s,j+o⟩]⟩,M,an ⟨M,0,ba⟩,S,zG,an ⟨W,0,ba⟩,R,an ⟨g,0,ba⟩,c,eb (eb (eb (dp ⟨rfl,K,zC,Y,rfl⟩))),Yu,hm,⟨dp rfl,zV,(Ac zA rfl).2,zS.ai (Zm h.lb F.size),?_,Zm h.lb hB.size,by simp[ownBlock];exact zH,λq hq e=> ?_,λz B a n c x _ e=> ?_,eb (Zm (Zm h.lb F.size) (Ac zA rfl).1),λz B a n c x _=> ?_⟩⟩⟩
 .have h4:eo zM X.1.size 83 3 (Yz g (eh (p++[(⟨d+1,s,j+o⟩:Ld)])) c) (eh (p++[(⟨d+1,s,j+o⟩:Ld)])) (Ad lC (p++[(⟨d+1,s,j+o⟩:Ld)])):=gB;exact h4.ai (Zm h.lb F.size)
 .have x:W=q:=by simpa [ownBlock]using hq
  have O:g=q:=Hn;exact zI (x.ag O.symm)
 .have O:a.block=g:=Hn;exact zU z B a n c x O
 obtain⟨J,A,N,n⟩:=zK z B;rw[N]at x;cases x;obtain⟨q1,q2,q⟩:=(Ac n (g:=J) (by rw[N];rfl)).1,h.lb,F.size;show L<=J;omega
theorem XH{A m:Int}{t:Zk}(I:Nat){y v:Nat}{i:List (Kd×Value)}{p:Db}{o:Da}(s L:Zi){k:Zi}{B:Int}{j:Zl}(O:Zk)(P:Nat)(h:CT w D b H x t y v i p o)(K:IH A m f d (i.map (·.1)) p o 7 B k j):
 D8 45 #[ct (Yg A m f d H (eh i) I x (eh p) y t (eh o) v),ct (Ye 7 s L B k O (eh j) P)] w (NY D (C3 t (eh o) v) A m f d (i.map (·.1)) p o 7 s L B k j w):=by
 have Z:=K.bk.len;have S:eh i<=600:=gA;by_cases hth:AA (i.map (·.1)) s
 .obtain rfl:H=an ⟨b,0,ba⟩:=h.tb.resolve_right (λe=>by obtain⟨u,hu,_⟩:=hth;rw[e]at hu;simp at hu);refine DI 7 83 _ A m f d (an ⟨b,0,ba⟩) x t (eh i) I (eh p) y (eh o) v s L k B O (eh j) P w [] (λX e C=>Rx X C e A m f d (C2 x p y) (C2 t o v) i p o s) _ (eb (eb (eb (eb (eb (⟨rfl,rfl,rfl⟩)))))) Yu (λX l _=>Mf A m f d I y v s (h.A l).z (h.A l).bl (h.A l).gz (h.A l).gw S K.np K.nl (λz r=>(K.bk.D z.1 (mem_map.2 ⟨z,r,rfl⟩)).1) hth) ?_ ?_
  .rintro X e C ⟨q,⟨_,rfl⟩|⟨_,g,c,rfl,_⟩⟩
   .exact⟨Tn.of q,_,_,_,_,_,_,_,_,_,_,_,_,_,_,_,_,_,_,rfl⟩
   exact⟨Tn.of q,_,_,_,_,_,_,_,_,_,_,_,_,_,_,_,_,_,_,rfl⟩
  rintro X e C U l r ⟨q,⟨M,rfl⟩|⟨G,g,c,rfl,T,Y,N⟩⟩ F
  .exact⟨Tn.of (Cm l q F),dp ⟨6,_,_,eb ⟨rfl,rfl,eb (eb (eb (eb (eb ⟨rfl,eb ⟨hth,M,rfl⟩⟩))))⟩,rfl⟩⟩
  have Q:=Cm l q F;have E:=h.A Q;have R:=T.S F N Yt (λz r a n c V W J=>by
   simp at J;have:=h.z.cu (B6.1 r).1 V W;omega)
  exact⟨Tn.of Q,eb ⟨⟨⟨#[]⟩,0,m,f,d,Dk (i.map (·.1)) s,p,o⟩,g,_,c,BN i s,x,y,t,v,eb (eb (eb (eb (eb (eb ⟨rfl,hth,G,rfl⟩))))),by simp[<-Ki],Ki i s,⟨dp rfl,R,Zr N F.size,E.po,E.lo,E.lb,λe=>by have J:=h.db.2.1 g e.symm;have V:=l.size;omega,E.pL,λz r=>E.zL z (B6.1 r).1,eb (by have J:=h.lb;have V:=l.size;omega),λz r=>E.zr z (B6.1 r).1⟩⟩⟩
 refine DI 7 83 _ A m f d H x t (eh i) I (eh p) y (eh o) v s L k B O (eh j) P w [] (λX e C=>e=C5 (ct (ei (Cr 2 ⟨#[]⟩ ⟨#[]⟩)))/\Zz X C) _ (eb (eb (eb (eb (eb (⟨rfl,rfl,rfl⟩)))))) Yu (λX l _=> ?_) ?_ ?_
 .have J:=Nf A m f d x t I (eh p) y (eh o) v s (h.A l).dt Yv hth;rw[B0]at J;exact J
 .rintro X e C ⟨rfl,q⟩;exact⟨Tn.of q,_,_,_,_,_,_,_,_,_,_,_,_,_,_,_,_,_,_,rfl⟩
 rintro X e C U l r ⟨rfl,q⟩ F;exact⟨Tn.of (Cm l q F),dp ⟨2,_,_,eb ⟨rfl,rfl,eb (eb (eb (eb (eb ⟨rfl,dp ⟨hth,rfl⟩⟩))))⟩,rfl⟩⟩
theorem XI{r i:Int}{P D:Zk}(tc:Nat){I E:Nat}{F:List (Kd×Value)}{B:Db}{o:Da}(s N:Zi){j:Zi}{l:Int}{f:Zl}{K:Zk}(O:Nat)(h:CT w p b P H D I E F B o)(m:IH r k d i (F.map (·.1)) B o 1 l j f)(hr:Ab w w.1.size K f)(zI:K=ba->eh f=0/\O=0):
 D8 45 #[ct (Yg r k d i P (eh F) tc H (eh B) I D (eh o) E),ct (Ye 1 s N l j K (eh f) O)] w (NY p (C3 D (eh o) E) r k d i (F.map (·.1)) B o 1 s N l j f w):=by
 refine DI 1 76 _ r k d i P H D (eh F) tc (eh B) I (eh o) E s N j l K (eh f) O w (ej (C3 D (eh o) E)).toList (λX e w'=>Tq p b r k d i l F (C3 H (eh B) I) (C3 D (eh o) E) o j f X e w') _ (dp ⟨rfl,rfl,rfl⟩) (λq u=>h.db.2.1 q gA) (λX t _=>Vp p r k d i 1 l P b tc F H D (eh B) I E o s N j f K O X ⟨h.tb,zI,(h.A t).z,(h.A t).bl,Ah h.lo t,Zm h.lb t.size,h.bL,h.zL,Ab.ai (Ab.A hr t) t.size,m.bk,m.w1,λz A=>m.cj z.1 (mem_map.2 ⟨z,A,rfl⟩),m.kp,m.kf,m.ay,m.aj,m.bu,m.br,m.dm,m.dj,m.gq,m.gy,m.nl⟩) ?_ ?_
 .rintro X e w' ⟨y,⟨c,a,b',_,rfl⟩|⟨M,aj,g,gc,Y,C,Z,_,_,_,_,rfl,_⟩⟩
  .exact⟨y,_,_,_,_,_,_,_,_,_,_,_,_,_,_,_,_,_,_,rfl⟩
  exact⟨y,_,_,_,_,_,_,_,_,_,_,_,_,_,_,_,_,_,_,rfl⟩
 rintro X e w' zP t A ⟨zJ,hQ⟩ y;have G:=zJ;have hB:=Tn.fresh ((Tn.of t).ag G) y Yv;rcases hQ with⟨c,a,b',zG,rfl⟩|⟨M,aj,g,gc,Y,C,Z,Q,R,zE,zB,rfl,hm,zN,S,T,W,U,ho,zC,zM⟩
 .exact⟨hB,dp ⟨c,a,b',dp ⟨rfl,zG⟩,rfl⟩⟩
 have zT:g≠w.1.size+2:=by have:=h.bl;rcases T with⟨e,_⟩|e<;>omega
 have zK:=zN.S y S Yt (λz A a n c x e3 v=>by
  simp at v;rcases W z A with L|⟨zA,n',zO,J,zF⟩
  .have:=h.z.cu L x e3;omega
  rw[x]at J;cases J;omega)
 have zU:C≠w.1.size+2:=by
  rcases U with e|e
  .have:=h.db.2.1 C e;omega
  omega
 have zV:=NZ ho y (by intro q u;have:C=q:=by simpa [ownBlock]using u
                      omega)
 have V:=Ah h.po t;have zH:=NZ (Ar V (w':=w') (λq u=>G.block q (Ac V u).2 (λe=>h.pL q u gA))) y (by intro q u;have:=h.db.1 q u;omega);have zS:=t.size;have h4:eo zP p 83 3 (Yz C (eh (o++[(⟨d+1,Bm j f r,k+l⟩:Ld)])) Z) (eh (o++[(⟨d+1,Bm j f r,k+l⟩:Ld)])) (Ad lC (o++[(⟨d+1,Bm j f r,k+l⟩:Ld)])):=gA;refine⟨hB,eb ⟨⟨Bm j f r,d+1,k,d+1,aj,M,B,o++[⟨d+1,Bm j f r,k+l⟩]⟩,g,_,gc,Y,H,I,_,Z,dp ⟨rfl,Q,zE,zB,M,aj,R,rfl⟩,by simp[<-hm],hm,⟨dp rfl,zK,Zr S y.size,zH,h4,Zm h.lb hB.size,by simp[ownBlock];exact zC,λq u e=> ?_,λz A a n c v x e=> ?_,?_,λz A a n c v x=> ?_⟩⟩⟩
 .have v:C=q:=Hn;have:=h.db.1 q u;rcases U with hk|hk
  .exact h.pL q u gA
  omega
 .have e3:a.block=C:=Hn;exact zM z A a n c v x e3
 .rcases T with⟨v,x⟩|v
  .rw[v,x];exact h.zb
  exact eb (Dl h.lb)
 rcases W z A with L|⟨zA,n',zO,J,zF⟩
 .exact h.zr z L a n c v x
 rw[v]at J;cases J;have:=h.lb;omega
theorem Lp{f:Nat}{r g c a:Int}{z v o:Zk}(A:Nat){x:Nat}{l:List (Kd×Value)}{m:Db}{j:Da}(s u:Zi){e:Zi}{i:Int}{d:Zl}{q:Zk}(y:Nat){n:Int}(h:CT w f b z v o x p l m j)(t:IH r g c a (l.map (·.1)) m j n i e d)(B:∀k∈l.map (·.1),eh k.D<=30)(D:Ab w w.1.size q d)(C:q=ba->eh d=0/\y=0):
 D8 45 #[ct (Yg r g c a z (eh l) A v (eh m) x o (eh j) p),ct (Ye n s u i e q (eh d) y)] w (NY f (C3 o (eh j) p) r g c a (l.map (·.1)) m j n s u i e d w):=by
 obtain rfl|rfl|rfl|rfl|rfl|rfl|rfl:n=1\/n=2\/n=3\/n=4\/n=5\/n=6\/n=7:=by have:=t.kg;have:=t.kh;omega
 .exact XI A s u y h t D C
 .exact XF A s u q y h t
 .exact XC A s u q y h t
 .exact XG A s u q y h t B
 .exact XD A s u q y h t
 .exact XE A s u q y h t
 exact XH A s u q y h t
end
theorem XJ{d:Zk}{a:Zl}(h:eo w b 9 1 (C3 d (eh a) i) (eh a) (a.map string)):Ab w w.1.size d a/\(d=ba->eh a=0/\i=0):=by
 rcases h.2 with⟨c,f⟩|⟨g,k,l,c,_,_,j,_⟩
 .injection c with e1 e2 e3;subst e1;exact⟨dp (B8 f),λ_=>⟨f,e3⟩⟩
 cases c;exact⟨Ab.own h,λe=>by cases e⟩
theorem CT.low{m:Zh}{d:Nat}{y t p:Zk}{u r:Nat}{A:List (Kd×Value)}{x:Db}{s:Da}(h:CT w d b y t p u r A x s){V:List Nat}(j:Tn V w m)(k:∀q∈V,q<d):CT m d b y t p u r A x s:=by
 have o:∀{e:TypeId} {size:Nat} {v:D4} {n:Nat} {xs:Zj},eo w d e size v n xs->eo m d e size v n xs:=λh=>Ar h (λg f=>j.block g (Ac h f).2 (λe=>by have D:=k g e;have E:=(Ac h f).1;omega));refine⟨h.tb,?_,Zr h.bl j.size,o h.po,o h.lo,Zm h.lb j.size,h.bL,h.pL,h.zL,h.zb,h.zr⟩;rcases h.zb with e|e
 .rw[e];intro i z l;simp at l
 exact h.z.S j h.bl (λf=>Dl (k b f)) (λz l a n c B C f=>by have D:=k _ f;have E:=h.zr z l a n c B C;omega)
theorem Aeg{j k l m n o p:D4}(h:Aa w b [j,k,l,m,n,o,p])(a c d e f g i:D4):Aa (ev (ev (ev (ev (ev (ev (ev w (Zd b 0) a) (Zd b 1) c) (Zd b 2) d) (Zd b 3) e) (Zd b 4) f) (Zd b 5) g) (Zd b 6) i) b [a,c,d,e,f,g,i]:=
 ((((((h.set 0 a).set 1 c).set 2 d).set 3 e).set 4 f).set 5 g).set 6 i
theorem tn7(w:Zh)(R:Nat)(a b c d e f g:D4):Tn [R] w (ev (ev (ev (ev (ev (ev (ev w (Zd R 0) a) (Zd R 1) b) (Zd R 2) c) (Zd R 3) d) (Zd R 4) e) (Zd R 5) f) (Zd R 6) g):=
 ((((((AX _ _ _ _).ag (AX _ _ _ _)).ag (AX _ _ _ _)).ag (AX _ _ _ _)).ag (AX _ _ _ _)).ag (AX _ _ _ _)).ag (AX _ _ _ _)
theorem Lq(d:Int){a:Zk}(yF:Nat){g:Zl}(j:Ab w w.1.size a g)(hl:eh g<=1048576)(hs:∀s∈g,s.size<=1048576):
 D8 20 #[Zg d,C3 a (eh g) yF] w (Acy d g w):=by
 have⟨W,l⟩:=D6 w Yd 42;obtain⟨Y,zW,xW,HW,f⟩:=(Ax l).1,(Ax l).2.1,(Ax l).2.2,Yw l,EX d W;have⟨⟨E,q0⟩,⟨F,q1⟩,⟨G,q2⟩,⟨H,q3⟩,⟨I,q4⟩,⟨J,q5⟩,⟨K,q6⟩,⟨L,q7⟩,⟨M,q8⟩,⟨N,q9⟩,⟨p,zB⟩,t,zC⟩:=Bv xW;clear l;by_cases hwd:1<=d/\d<=8
 case neg=>
  rw[decide_eq_false hwd]at f;have u:=Yw f;clear f;delta D8;go_in;go_wp2_with fail;rw[<-HW.o];refine u.Aj ?_;rintro e w1 ⟨rfl,l⟩;replace l:=l.symm;subst l;clear u;go_wp2;refine C1 (ct (Yc 1)) F3 ?_;exact⟨⟨1,0,0,0,0,0,⟨#[]⟩,⟨#[]⟩,⟨#[]⟩,[],[],[]⟩,_,_,_,[],dp ⟨λh=>hwd h.1,rfl⟩,rfl,LG _ _,Y.ag ((BB W w.1.size _ _ _ _ _ _ _ _ _ _ _ _).A Y.size Yu)⟩
 rw[decide_eq_true hwd]at f;by_cases hlen:eh g<=4000
 case neg=>
  have yG:bx ((4000:Int)<eh g)=bg:=Yt;have u:=Yw f;clear f;delta D8;go_in;go_wp2_with fail;rw[<-HW.o];refine u.Aj ?_;rintro e w1 ⟨rfl,l⟩;replace l:=l.symm;subst l;clear u;go_wp2;refine C1 (ct (Yc 1)) F3 ?_;exact⟨⟨1,0,0,0,0,0,⟨#[]⟩,⟨#[]⟩,⟨#[]⟩,[],[],[]⟩,_,_,_,[],dp ⟨λh=>hlen h.2,rfl⟩,rfl,LG _ _,Y.ag ((BB W w.1.size _ _ _ _ _ _ _ _ _ _ _ _).A Y.size Yu)⟩
 have yG:bx ((4000:Int)<eh g)=bq:=Yt;have⟨A,n⟩:=D6 W #[Zg d,Ze,Ze,Ze,Zb,Zb,Zb] 30;have o:=(Ax n).1;have zA:A.1.size=w.1.size+2:=gB;have y:Aa A (w.1.size+1) [Zg d,Ze,Ze,Ze,Zb,Zb,Zb]:=by rw[n,<-zW];exact Aa.new W _ _
 have C:=Aa.A (v:=Ze) xW o;have yE:=Y.ag (o.ai Y.size);have P:CT A (w.1.size+2) w.1.size ba ba ba 0 0 [] [] []:=⟨eb rfl,λi z l=>by simp at l,Yv,⟨rfl,dp ⟨rfl,rfl⟩⟩,⟨rfl,dp ⟨rfl,rfl⟩⟩,Yv,by simp[ownBlock],λq h=>by simp[ownBlock]at h,λz l=>by simp at l,dp rfl,λz l=>by simp at l⟩;have u:=Yw f;have x:=Yw n;have m:=Yw (Zn y (Zn C (Zn P yE)));have zF:Hid (Ab w w.1.size a g):=j;clear f n y C P o j;delta D8;go_in;go_wp2_with fail;rw[<-HW.o];refine u.Aj ?_;rintro e w1 ⟨rfl,l⟩;replace l:=l.symm;subst l;clear u;go_upto_region 4 with fail;rw[<-x.o];clear x E F G H I J K L M N p t q0 q1 q2 q3 q4 q5 q6 q7 q8 q9 zB zC;go_wp2;go_loopw [6] (λi wr=>∃(k:Nat) (r:Rs) (b:Nat) (ta pa Z:Zk) (tc pc z:Nat) (R:List (Kd×Value)),k<=eh g/\i=Zg k/\Hid (Aa wr (w.1.size+1) (Yh d r.F r.G r.E ta (eh R) tc pa (eh r.ps) pc Z (eh r.ls) z)/\Aa wr w.1.size z12/\CT wr (w.1.size+2) b ta pa Z pc z R r.ps r.ls/\R.map (·.1)=r.B/\Cp d r0 (g.take k) r/\Zz w wr)) (λi _=>eh g -(intOf i).toNat)
 case atStart=>exact⟨0,r0,w.1.size,ba,ba,ba,0,0,0,[],Aq _,rfl,⟨m.1,m.2.1,m.2.2.1,rfl,rfl,m.2.2.2⟩⟩
 clear m;obtain⟨k,r,b,ta,pa,Z,tc,pc,z,R,hk,rfl,f⟩:=hrel;have⟨zO,zP,P,m,j,n⟩:=f.o;by_cases hlt:k<eh g
 case neg=>
  obtain rfl:k=eh g:=Yv;have j:=f.2.2.2.2.1;rw[Zt (Zx)]at j;have x:=j.ok (DH hwd.1 hwd.2);have m:=f.2.2.2.1;have o:=f.2.2.1;have D:=Jm d r.F r.G r.E ta pa Z tc pc z (R.map (·.1)) r.ps r.ls wr ⟨o.dt,o.gz,o.gw⟩ (λB V=>by
   rcases o.tb with e|e
   .rw[e]at V;cases V;exact o.z.some
   rw[e];intro i k hk;simp at hk) (DF o.po) (DF o.lo) (by rw[m];exact x.bk.len) x.np x.nl (by rw[m];exact x.cz)
  rw[B0,m]at D;have V:=Yw D;have s:=Yw j;obtain⟨v0,v1,v2,v3,v4,v5,v6⟩:=Aa.c7 f.1 0 1 2 3 4 5 6;clear D j x m o zO zP P n;go_wp2_with fail;refine V.Aj ?_;rintro e w4 ⟨T,P',L',rs,rfl,hS,_,j⟩;obtain⟨B,yI,rfl⟩:=Au hS.ak;obtain⟨D,P,rfl⟩:=Au hS.pins;obtain⟨o,x,rfl⟩:=Au hS.ax;have Q:=Aa.A (v:=Ze) f.2.1 j;have yO:=f.2.1.lt;have m:=Yw (Zn hS j);have⟨⟨E,q0⟩,⟨F,q1⟩,⟨G,q2⟩,⟨H,q3⟩,⟨I,q4⟩,⟨J,q5⟩,⟨K,q6⟩,⟨L,q7⟩,⟨M,q8⟩,⟨N,q9⟩,⟨p,zB⟩,t,zC⟩:=Bv Q;clear hS j V Q v0 v1 v2 v3 v4 v5 v6;go_wp2;refine C1 (ct #[Ze,Zg d,Zg r.F,Zg r.G,Zg r.E,C3 B (eh r.B) yI,C3 D (eh r.ps) P,C3 o (eh r.ls) x,Zc,Ze,Zc,Zc]) F3 ?_;have n:=f.2.2.2.2.2;refine⟨⟨0,d,r.F,r.G,r.E,0,⟨#[]⟩,⟨#[]⟩,⟨#[]⟩,r.B,r.ps,r.ls⟩,_,_,_,rs,eb ⟨⟨hwd,hlen⟩,eb ⟨r,s,rfl⟩⟩,rfl,(m.1.S (BB w4 w.1.size _ _ _ _ _ _ _ _ _ _ _ _) Yt).ai n.size,?_⟩;exact(n.ag (m.2.ai n.size)).ag ((BB w4 w.1.size _ _ _ _ _ _ _ _ _ _ _ _).A (Zm n.size m.2.size) Yu)
 obtain⟨rb,yK,ha,yN,o⟩:=((zF.A n).ai n.size).at hlt;subst ha;have HG:=Yw (Zv hlt);obtain⟨yH,c,yC⟩:=hs _ (getElem_mem hlt),o k _ HG,Yw (Zu hlt);clear o;generalize g[k]=s at *
 have x:=Yw (SM s d wr yH);clear zO zP P m j n;go_wp2_with fail;refine x.Aj ?_;rintro e w2 ⟨v,rfl,zM,zK⟩;obtain⟨ra,rc,rfl⟩:=Au zM;have⟨w3,o⟩:=D6 w2 (Ye ((AK s d).k) ((AK s d).sum) ((AK s d).name) ((AK s d).n) ((AK s d).t) ra (eh (AK s d).ss) rc) 91;have zJ:=(Ax o).1;have b3:=zK.ag (zJ.ai zK.size);have U:=(Ax o).2.2;have Q:=Aa.A f.1 b3;obtain⟨S,y,O,C,D⟩:=Aa.A (v:=Ze) f.2.1 b3,f.2.2.1.A b3,Yw (f.2.2.2.2.2.ag (b3.ai f.2.2.2.2.2.size)),XJ (Ah zM zJ),Yw o;have yM:(k:Int)<=4000:=Yv
 clear o x;cases hok:(AK s d).ok with
 |false=>
  have⟨⟨E,q0⟩,⟨F,q1⟩,⟨G,q2⟩,⟨H,q3⟩,⟨I,q4⟩,⟨J,q5⟩,⟨K,q6⟩,⟨L,q7⟩,⟨M,q8⟩,⟨N,q9⟩,⟨p,zB⟩,t,zC⟩:=Bv S;clear U Q y C c S;go_upto_region 8 with fail;rw[<-D.o];go_wp2;refine C1 (ct #[Zg 7,Ze,Ze,Ze,Ze,Zb,Zb,Zb,Zc,Zg ((k:Int)+1),Zc,Zc]) F3 ?_
  exact⟨⟨7,0,0,0,0,((k+1:Nat):Int),⟨#[]⟩,⟨#[]⟩,⟨#[]⟩,[],[],[]⟩,_,_,_,[],eb ⟨⟨hwd,hlen⟩,dp ⟨k+1,⟨k,r,s,rfl,HG,f.2.2.2.2.1,dp hok⟩,rfl⟩⟩,rfl,LG _ _,O.ag ((BB w3 w.1.size _ _ _ _ _ _ _ _ _ _ _ _).A O.size Yu)⟩
 |true=>
  obtain⟨zN,x,m⟩:=(GN hok).1,f.2.2.2.2.1.ok (DH hwd.1 hwd.2),f.2.2.2.1;have o:IH d r.F r.G r.E (R.map (·.1)) r.ps r.ls (AK s d).k (AK s d).n (AK s d).t (AK s d).ss:=by rw[m];exact Gn.jt x zN (by have:=Qf zN;unfold maxLen;omega)
  have V:=Yw (Lp tc (AK s d).sum (AK s d).name rc y o (by rw[m];exact x.cz) C.1 C.2);obtain⟨v0,v1,v2,v3,v4,v5,v6⟩:=Aa.c7 Q 0 1 2 3 4 5 6;obtain⟨⟨B,T,u2,u3,u4,u5⟩,yB,yD,zI⟩:=Aa.c6 U 0 1 2 3 4 5,Yw Q,Yw S,Yw y;clear U Q y C c S o;go_upto_region 8 with fail;rw[<-D.o];clear D;go_wp2_with fail;refine V.Aj ?_;rintro e w4 ⟨o,hQ⟩;have zG:∀q∈(ej (C3 Z (eh r.ls) z)).toList,w.1.size+2<=q:=λq h=>(Ac zI.lo gA).1;have zE:=o.A zI.lb zG;have Q:=Aa.same yD (zE.block _ Yv);have s4:=Aa.same yB (zE.block _ Yv);have U:=Yw (O.ag (zE.ai Yv));clear v0 v1 v2 v3 v4 v5 v6 B T u2 u3 u4 u5 V o;rcases hQ with⟨c,a',b',D,rfl⟩|⟨y,b1,zX,zY,zZ,zU,zV,zS,zT,B,rfl,hm,hC⟩
  .rw[m]at D;have yL:(c !=0)=bg:=(by have:=D.code;simp;omega);have yA:=Yw D;have q:ei (Cr c a' b')= #[Zg c,Ze,Ze,Ze,Ze,Zb,Zb,Zb,Zc,Ze,C4 a',C4 b']:=rfl;rw[q];have⟨w5,o⟩:=D6 w4 #[Zg c,Ze,Ze,Ze,Ze,Zb,Zb,Zb,Zc,Ze,C4 a',C4 b'] 42;have C:=(Ax o).1;have h:=(Ax o).2.2;have S:=Yw (U.ag (C.ai U.size));obtain⟨⟨⟨E,q0⟩,⟨F,q1⟩,⟨G,q2⟩,⟨H,q3⟩,⟨I,q4⟩,⟨J,q5⟩,⟨K,q6⟩,⟨L,q7⟩,⟨M,q8⟩,⟨N,q9⟩,⟨p,zB⟩,t,zC⟩,⟨m0,_⟩,V⟩:=Bv (Aa.A (v:=Ze) Q C),h 0 _ rfl,Yw o;clear o D h Q s4 q;go_upto_region 11 with fail;rw[<-V.o];go_wp2;refine C1 (ct #[Zg 7,Ze,Ze,Ze,Ze,Zb,Zb,Zb,Zc,Zg ((k:Int)+1),Zc,Zc]) F3 ?_;exact⟨⟨7,0,0,0,0,((k+1:Nat):Int),⟨#[]⟩,⟨#[]⟩,⟨#[]⟩,[],[],[]⟩,_,_,_,[],eb ⟨⟨hwd,hlen⟩,dp ⟨k+1,⟨k,r,s,rfl,HG,f.2.2.2.2.1,eb ⟨c,a',b',yA⟩⟩,rfl⟩⟩,rfl,LG _ _,S.ag ((BB w5 w.1.size _ _ _ _ _ _ _ _ _ _ _ _).A S.size Yu)⟩
  rw[m]at B;have⟨w5,o⟩:=D6 w4 #[Ze,Zg d,Zg y.F,Zg y.G,Zg y.E,C3 zX (eh y.B) zY,C3 zU (eh y.ps) zV,C3 zS (eh y.ls) zT,C4 y.sm,Zg y.le,Zc,Zc] 42;have C:=(Ax o).1;obtain⟨h,D,x5,s,zH⟩:=(Ax o).2.2,Aa.A s4 C,Aa.A (v:=Ze) Q C,hC.A C,Yw (U.ag (C.ai U.size));have T:eh y.B=eh zZ:=gG;obtain⟨q,⟨v0,p0⟩,⟨v1,p1⟩,⟨v2,p2⟩,⟨v3,p3⟩,⟨v4,p4⟩,⟨v5,p5⟩,v6,p6⟩:=Yw (Zn D (Zn x5 (Zn s (Zn hm (Zn B T))))),(⟨D 0 _ rfl,D 1 _ rfl,D 2 _ rfl,D 3 _ rfl,D 4 _ rfl,D 5 _ rfl,D 6 _ rfl⟩:(_/\_)/\(_/\_)/\(_/\_)/\(_/\_)/\(_/\_)/\(_/\_)/\_/\_);obtain⟨⟨m0,m1,m2,m3,m4,m5,m6⟩,⟨m7,_⟩,V⟩:=Aa.c7 h 0 1 2 3 4 5 6,h 7 _ rfl,Yw o;have X:Hid (Cp d r0 (g.take (k+1)) y):=by show Cp _ _ _ _;rw[yC.o];exact f.2.2.2.2.1.snoc ⟨hok,B⟩
  have yJ:=s.lb;clear o B h Q s4 D x5 hC s T hm;go_upto_region 11 with fail;rw[<-V.o];clear V;go_wp2;refine⟨⟨k+1,y,b1,zX,zU,zS,zY,zV,zT,zZ,Yv,Yn,⟨?_,Aa.same q.2.1 ((tn7 w5 (w.1.size+1) _ _ _ _ _ _ _).block _ Yv Yu),q.2.2.1.low (tn7 w5 (w.1.size+1) _ _ _ _ _ _ _) Yu,q.2.2.2.1,X,zH.ag ((tn7 w5 (w.1.size+1) _ _ _ _ _ _ _).A zH.size Yu)⟩⟩,Ys⟩;rw[<-q.2.2.2.2.2];exact Aeg q.1 _ _ _ _ _ _ _
theorem Aay{j:Nat}(h:z12[j]?=an (C4 s)):s=⟨#[]⟩:=by have:=Zs h;simpa [z12]using this
theorem Qj{t:TypeId}{a:Nat×Nat}(h:w.1[o]?=an (ca (ei z12) t a))(j:Nat):ek w (Zd o j)=z12[j]?:=by simp[cell?,h]
theorem Bs.iw{p:Zh}{t:TypeId}{y:Nat×Nat}{c:List (Kd×Value)}(h:Bs w b 0 c)(k:w.1[o]?=Option.some (ca (ei z12) t y))(u:∀z∈c,∀s∈z.1.D,s≠⟨#[]⟩)(C:Tn [o] w p)(q:b<w.1.size):Bs p b 0 c:=by
 cases hzs:c with
 |nil=>intro i z a;simp at a
 |cons z0 zs0=>
  rw[<-hzs];have H:b≠o:=by rintro rfl;obtain⟨⟨g,_⟩,_⟩:=h 0 z0 gA;rw[Nat.zero_mul,Nat.add_zero,Qj k]at g;simp[z12]at g
  refine h.S C q Yt (λz a d n d e l d=> ?_);have⟨i,B⟩:=A9 a;have⟨_,D,F,j,f⟩:=h i z B;rw[e]at j;cases j;rcases f with f|⟨G,v,x,_,A⟩
  .exact l f
  cases x;simp at d;subst d;have⟨r,m,E⟩:∃r m,z.1.D=r::m:=exists_cons_of_ne_nil l;have d:=A 0 r gA;rw[Qj k]at d;exact u z a r gA (Aay d)
theorem CT.iw{t:Zh}{r n k:Zk}{l:Nat}{j:List (Kd×Value)}{q:Db}{m:Da}(h:CT w a b r n k p l j q m)(i:w.1[o]?=an (ca (ei z12) 42))(u:∀z∈j,∀s∈z.1.D,s≠⟨#[]⟩)(f:Tn [o] w t):CT t a b r n k p l j q m:=
 ⟨h.tb,h.z.iw i u f h.bl,Zr h.bl f.size,Ar h.po (λg e=>f.block g (Ac h.po e).2 (by
  simp only[mem_singleton];rintro rfl;have⟨c,d⟩:=BL h.po e;rw[i]at d;simp at d)),Ar h.lo (λg e=>f.block g (Ac h.lo e).2 (by
  simp only[mem_singleton];rintro rfl;have⟨c,d⟩:=BL h.lo e;rw[i]at d;simp at d)),Zm h.lb f.size,h.bL,h.pL,h.zL,h.zb,h.zr⟩
theorem CT.of{h:Zj}{d:List Kd}{E:List Pd}{D:List Ld}(hS:Be w a T P L h d E D)(r:∀v∈T::P::L::h,∃g n c,v=Yz g n c)(R:a<=w.1.size):
 ∃b p l F t s f,T=Yz b (eh f) F/\P=Yz p (eh E) t/\L=Yz l (eh D) s/\f.map (·.1)=d/\CT w a b (an ⟨b,0,ba⟩) (an ⟨p,0,ba⟩) (an ⟨l,0,ba⟩) t s f E D/\a<=l/\l<w.1.size:=by
 obtain⟨b,H,F,rfl⟩:=r T Yu;obtain⟨p,I,t,rfl⟩:=r P Yu;obtain⟨l,J,s,rfl⟩:=r L Yu;obtain⟨_,_,M⟩:=Au hS.ak;obtain⟨_,_,N⟩:=Au hS.pins;obtain⟨_,_,O⟩:=Au hS.ax;cases M;cases N;cases O;have hlen:eh (d.zip h)=eh d:=by rw[length_zip,hS.len];omega
 have u:(d.zip h).map (·.1)=d:=map_fst_zip (by rw[hS.len];exact Zx);have m:=hS.nd;rw[FG]at m;unfold BP at m;obtain⟨H,I,J⟩:=Qi m (l:=l) rfl;have A:=hS.ak;rw[<-hlen]at A;have o:∀z∈d.zip h,∃i,d[i]?=an z.1/\h[i]?=an z.2:=λz f=>by have⟨i,C⟩:=A9 f;rw[getElem?_zip_eq_some]at C;exact⟨i,C.1,C.2⟩
 refine⟨b,p,l,F,t,s,d.zip h,by rw[hlen],rfl,rfl,u,⟨dp rfl,?_,(Ac hS.ak rfl).2,hS.pins,hS.ax,R,?_,?_,?_,eb (Ac hS.ak rfl).1,?_⟩,Ac hS.ax rfl⟩
 .refine Bs.own A (λz f=> ?_);have⟨i,q,j⟩:=o z f;have k:=hS.D i z.1 z.2 q j;obtain⟨⟨Q,X,K,B⟩,W,V,x⟩:=r z.2 (by simp;exact eb (eb (eb (Zs j)))),Au k;rw[B]at x;cases x;rw[B]at k;exact⟨⟨Q,0,ba⟩,K,B,Ab.own k⟩
 .intro e;simp[ownBlock]at e;exact H (by simp[ownBlock,e])
 .intro g S e;simp[ownBlock]at S e;exact I Fo
 .intro z f G n U e _ y;simp[ownBlock]at y;have⟨i,q,j⟩:=o z f;refine J (mem_filterMap.2 ⟨z.2,Zs j,?_⟩);rw[e];simp[ownBlock,y]
 intro z f G n U e _;have⟨i,q,j⟩:=o z f;have k:=hS.D i z.1 z.2 q j;rw[e]at k;exact(Ac k (g:=G.block) H0).1
def Oa(wd:Int)(ks:List Kd):Prop:=∀k∈ks,AL k.i k.D wd=bg
theorem Oa.step{g p b:Int}{n:C9}{w:Db}{v:Da}{m:Int}{o:Zi}{i:Int}{d:Zi}{c:Zl}(h:Oa g n)(q:Cn m s o i d c g=bg)(j:EI g p f b n w v m s o i d c r):Oa g r.B:=by
 have⟨D,E,e⟩:=FN q;rcases j with⟨rfl,_,u,t,z,A,j,rfl⟩|⟨_,_,l,rfl⟩|⟨_,_,rfl⟩|⟨_,_,u,t,rfl⟩|⟨_,_,rfl⟩|⟨_,C,rfl⟩|⟨_,_,_,rfl⟩
 .rcases j with⟨_,_,_,_,rfl,rfl⟩|⟨y,x,B,rfl,rfl⟩
  .exact h
  intro k a;rcases Bw.1 (Iq.1 a)with a|a
  .exact h k a
  rw[mem_singleton]at a;subst a;exact e.fh rfl
 .exact h
 .exact h
 .exact h
 .exact h
 .exact h
 exact λk a=>h k (filter_sublist.subset a)
theorem Cp.tok{a:Int}:∀{xs:Zl} {r r':Rs},Cp a r xs r'->Oa a r.B->Oa a r'.B
 |[],r,r',h,hr=>by obtain rfl:r'=r:=h;exact hr
 |x::xs,r,r',h,hr=>by obtain⟨d,b,c⟩:=h;exact Cp.tok c (hr.step (GN b.1).1 b.2)
theorem BZ.tok(h:BZ v r):Oa v.wd v.B:=by have a:=h.run.tok (by intro k b;cases b);rwa[h.same.2.1]at a
def Ql(w:Zh)(lo:Nat)(a:Zk)(ss:Zl):Prop:=
 ss=[]\/∃b off,a=an ⟨b,off,ba⟩/\b<lo/\(∃cur,w.1[b]?=an (ca cur 9))/\∀i s,ss[i]?=an s->ek w (Zd b (off+i))=an (.string s)
theorem Ql.A{j:Zh}{a:Zk}{g:Zl}(h:Ql w e a g)(f:bs e w j):Ql j e a g:=by
 rcases h with h|⟨b,c,l,d,⟨k,m⟩,o⟩
 .exact dp h
 exact eb ⟨b,c,l,d,⟨k,(f.block b d).ag m⟩,λi s n=>(f.cell (p:=⟨b,c+i,ba⟩) d).ag (o i s n)⟩
theorem Ql.row{a:Zk}{d:Zl}(h:Ql w c a d)(i:c<=w.1.size):Ab w w.1.size a d:=by
 rcases h with h|⟨b,e,f,g,_,j⟩
 .exact dp h
 exact eb ⟨b,e,f,Zr g i,j⟩
theorem Lm.has{d:Nat}{a:Int}{Z:Zh}(h:Lm 0 d m a r X)(b:∀k∈r.B,(k.sum.size:Int)=a)(g:Z.1[m]?=X.1[m]?)(s:Zi):Adu Z a m r.B s:=by obtain⟨O,P,L,h⟩:=h;have⟨n,f,i,c,e⟩:=h.map;exact JX f s (c.same g) e.holds b
theorem Lm.S{d:Nat}{c:Zh}{R:Nat}(h:Lm 0 d m f r X)(g:R≠d)(a:X.1.size<=R\/∃b,X.1[R]?=an (ca b 42))(e:Tn [R] X c):Lm 0 d m f r c:=by
 rcases a with a|⟨b,a⟩
 .obtain⟨O,P,L,h⟩:=h;exact⟨O,P,L,h.A (e.A (Zx) Yt)⟩
 exact h.stays a (Aq _) g e
theorem Rl(v:Vd)(a:Va)(w:Zh)(A:∀X,Zz w X->D8 99 #[ct #[C3 a.Y (eh v.ss) a.sc,C3 a.V (eh v.C) a.T]] X λe l=>∃x j y k,e=C5 (ct #[Yz x (eh v.ss) j,Yz y (eh v.C) k])/\eo l X.1.size 9 1 (Yz x (eh v.ss) j) (eh v.ss) (v.ss.map string)/\eo l X.1.size 9 1 (Yz y (eh v.C) k) (eh v.C) (v.C.map string)/\x≠y/\Zz X l)(G:∀X,Zz w X->D8 46 #[ct (Yg v.J v.F v.G v.E a.Q (eh v.B) a.W a.L (eh v.ps) a.P a.K (eh v.ls) a.O)] X λe l=>∃T P L q,e=C5 (ct #[Zg v.J,Zg v.F,Zg v.G,Zg v.E,T,P,L])/\Be l X.1.size T P L q v.B v.ps v.ls/\(∀u∈T::P::L::q,∃g n c,u=Yz g n c)/\Zz X l)(D:∀X,Zz w X->D8 73 #[ct (Xy v.I a.Z (eh v.H) a.y a.g (eh v.ms) a.j v.N v.M v.ro)] X λe l=>∃i d f b,e=C5 (ct (Xy v.I (an ⟨i,0,ba⟩) (eh v.H) d (an ⟨f,0,ba⟩) (eh v.ms) b v.N v.M v.ro))/\eo l X.1.size 9 1 (Yz i (eh v.H) d) (eh v.H) (v.H.map string)/\eo l X.1.size 9 1 (Yz f (eh v.ms) b) (eh v.ms) (v.ms.map string)/\i≠f/\Zz X l):
 D8 146 #[ct (Xq v a)] w λe l=>∃(S U T P L Q M:D4) (q:Zj),e=C5 (ct #[Zg v.wd,Zg v.lim,S,U,Zg v.J,Zg v.F,Zg v.G,Zg v.E,T,P,L,Zg v.I,Q,M,Zg v.N,Zg v.M,Zg v.ro])/\AF l w.1.size S U T P L Q M q v/\(∀u∈S::U::Q::M::T::P::L::q,∃g n c,u=Yz g n c)/\Zz w l:=by
 have⟨W,t⟩:=Ag ((w.alloc (ca (Xq v a) 34)).alloc (ca Xo 34));have B:=(AQ t).1;have zW:=(AQ t).2.1;have HX:Hid (Aa W _ _):=(AQ t).2.2.1;have HZ:Hid (Aa W (w.1.size+1) Xn):=by have A:=Aa.new (w.alloc (ca (Xq v a) 34)) Xn 34;rw[Ao]at A;show Aa W (w.1.size+1) Xn;rw[t];exact A
 obtain⟨H1,H2,H3⟩:=Yw A,Yw G,Yw D;have F:Hid (∀X,Zz W X->Aa X w.1.size (Xp v a)):=λX z=>Aa.A HX z;have C:=Yw t;clear t A G D;delta D8;go_in;go_upto_region 1 with fail;rw[<-C.o];clear C;go_cut [0] (λu t=>∃x j y k r s o p l m q i d f b,Hid (Aa t (w.1.size+1) (Xm v (an ⟨x,0,ba⟩) j (an ⟨y,0,ba⟩) k r s o p l m (an ⟨i,0,ba⟩) d (an ⟨f,0,ba⟩) b)/\Zz w t/\AF t w.1.size (C6 x v.ss j) (C6 y v.C k) (C2 r v.B s) (C2 o v.ps p) (C2 l v.ls m) (C6 i v.H d) (C6 f v.ms b) q v/\∀u∈(C2 r v.B s)::(C2 o v.ps p)::(C2 l v.ls m)::q,∃g n c,u=Yz g n c))
 case first=>
  refine wp_region_held_drew (S:=λX=>Aa X w.1.size (Xp v a)) Yr (F _ Ae.drew) (λhS=> ?_);refine Cb 0 (Yy w.1.size) ?_;refine Gd 1 (Zg v.wd) rfl (by exact Or.inl ⟨Yp,λX z=>by have h0:=(z 0 _ rfl).1;go_simp⟩) ?_;try simp only[Act.put,Zq,Zp,Zo]
  refine Cb 2 (Yx w.1.size 1) ?_;refine Gd 3 (Zg v.lim) rfl (by exact Or.inl ⟨Yp,λX z=>by have h0:=(z 1 _ rfl).1;go_simp⟩) ?_;try simp only[Act.put,Zq,Zp,Zo]
  refine Cb 4 (Yx w.1.size 2) ?_;refine Gd 5 (ct #[C2 a.Y v.ss a.sc,C2 a.V v.C a.T]) rfl (by exact yieldsIf_load_mid Yp 25 _ rfl (w.1.size) 2 rfl [C2 a.Y v.ss a.sc,C2 a.V v.C a.T] _ (λX h=>Aa.dq [Zg v.wd,Zg v.lim] [C2 a.Y v.ss a.sc,C2 a.V v.C a.T] [Zg v.J,Zg v.F,Zg v.G,Zg v.E,C2 a.Q v.B a.W,C2 a.L v.ps a.P,C2 a.K v.ls a.O,Zg v.I,C2 a.Z v.H a.y,C2 a.g v.ms a.j,Zg v.N,Zg v.M,Zg v.ro] h) underlying25 rfl Yr) ?_;try simp only[Act.put,Zq,Zp,Zo]
  refine Cb 7 (Yx w.1.size 4) ?_;refine Gd 8 (ct (C8 v.J v.F v.G v.E a.Q v.B a.W a.L v.ps a.P a.K v.ls a.O)) rfl (by exact yieldsIf_load_mid Yp 30 _ rfl (w.1.size) 4 rfl (C7 v.J v.F v.G v.E a.Q v.B a.W a.L v.ps a.P a.K v.ls a.O) _ (λX h=>Aa.dq [Zg v.wd,Zg v.lim,C2 a.Y v.ss a.sc,C2 a.V v.C a.T] (C7 v.J v.F v.G v.E a.Q v.B a.W a.L v.ps a.P a.K v.ls a.O) (Xu v.I a.Z (eh v.H) a.y a.g (eh v.ms) a.j v.N v.M v.ro) h) underlying30 rfl Yr) ?_;try simp only[Act.put,Zq,Zp,Zo]
  refine Cb 10 (Yx w.1.size 11) ?_;refine Gd 11 (ct (Xy v.I a.Z (eh v.H) a.y a.g (eh v.ms) a.j v.N v.M v.ro)) rfl (by exact yieldsIf_load_mid Yp 32 _ rfl (w.1.size) 11 rfl (Xu v.I a.Z (eh v.H) a.y a.g (eh v.ms) a.j v.N v.M v.ro) _ (λX h=>Aa.dq [Zg v.wd,Zg v.lim,C2 a.Y v.ss a.sc,C2 a.V v.C a.T,Zg v.J,Zg v.F,Zg v.G,Zg v.E,C2 a.Q v.B a.W,C2 a.L v.ps a.P,C2 a.K v.ls a.O] (Xu v.I a.Z (eh v.H) a.y a.g (eh v.ms) a.j v.N v.M v.ro) [] h) underlying32 rfl Yr) ?_;try simp only[Act.put,Zq,Zp,Zo]
  refine CX 6 (λK z=> ?_);go_simp;refine(H1 W.drew B.drew).ai ?_;rintro e w1 ⟨x,j,y,k,rfl,zG,C,h,zF⟩;have V:=(Below.refl W.1.size W).drew.ag zF;try go_simp
  refine z.out _ _ (F w1 V) (λt=> ?_);clear z K;refine CX 9 (λK z=> ?_);go_simp;refine(H2 w1 (B.ag (V.ai B.size))).ai ?_;rintro e w2 ⟨T,P,L,q,rfl,O,zB,H⟩;obtain⟨r,s,o,p,l,m,rfl,rfl,rfl,_⟩:=O.rows;have E:=V.ag (H.ai V.size);try go_simp
  refine z.out _ _ (F w2 E) (λt=> ?_);clear z K;try simp only[Act.put,Zq,Zp,Zo]
  refine CX 12 (λK z=> ?_);go_simp;refine(H3 w2 (B.ag (E.ai B.size))).ai ?_;rintro e N ⟨i,d,f,b,rfl,zH,D,n,I⟩;have J:bs W.1.size W N:=E.ag (I.ai E.size);try go_simp
  refine z.out _ _ (F N J) (λt=> ?_);clear z K;refine Cb 13 (ct (Xl v (an ⟨x,0,ba⟩) j (an ⟨y,0,ba⟩) k r s o p l m (an ⟨i,0,ba⟩) d (an ⟨f,0,ba⟩) b)) ?_;try simp only[Act.put,Zq,Zp,Zo]
  refine CX 14 (λK z=> ?_);have zE:AF N W.1.size (C6 x v.ss j) (C6 y v.C k) (C2 r v.B s) (C2 o v.ps p) (C2 l v.ls m) (C6 i v.H d) (C6 f v.ms b) q v:=AF.of (n1:=w1.1.size) (n2:=w2.1.size) (Ak.own (Ah (Ah zG H) I)) (Ak.own (Ah (Ah C H) I)) (λg A G=>by cases A;cases G;exact h rfl) (λg t=>by rcases t with t|t;(cases t;exact(zG.lt _ rfl).2);(cases t;exact(C.lt _ rfl).2)) (O.A I) zF.size O.db (Ak.own (zH.ai E.size)) (Ak.own (D.ai E.size)) (λg t=>by rcases t with t|t;(cases t;exact(zH.lt _ rfl).1);(cases t;exact(D.lt _ rfl).1)) H.size (λg A G=>by cases A;cases G;exact n rfl);have zA:((Xl v (an ⟨x,0,ba⟩) j (an ⟨y,0,ba⟩) k r s o p l m (an ⟨i,0,ba⟩) d (an ⟨f,0,ba⟩) b):Array Value).all (·.oneCell')=bg:=G3;obtain⟨zC,Z,R⟩:=Aa.A (v:=Ze) HZ J,Ag (N.setCells (w.1.size+1) 0 (Xm v (an ⟨x,0,ba⟩) j (an ⟨y,0,ba⟩) k r s o p l m (an ⟨i,0,ba⟩) d (an ⟨f,0,ba⟩) b));have x9:Aa Z (w.1.size+1) (Xm v (an ⟨x,0,ba⟩) j (an ⟨y,0,ba⟩) k r s o p l m (an ⟨i,0,ba⟩) d (an ⟨f,0,ba⟩) b):=by rw[R];exact zC.aw _ rfl
  have X:Tn [w.1.size+1] N Z:=by rw[R];exact AD _ _ _ _
  have z3:=J.size;have B9:bs w.1.size w Z:=(B.ag (J.ai B.size)).ag (X.A Yv Yu);have zI:AF Z w.1.size (C6 x v.ss j) (C6 y v.C k) (C2 r v.B s) (C2 o v.ps p) (C2 l v.ls m) (C6 i v.H d) (C6 f v.ms b) q v:=(zE.stays X (λg t Y=>by have:=zE.lo g Y;simp at t;omega)).ai Yv;have c:=Yw (Zn x9 (Zn B9 (Zn zI zB)));have g:=Aa.same (Aa.A HX J) (X.block _ Yv Yu);rw[if_pos Yp];refine wp_store_mid 34 _ _ rfl (w.1.size+1) 0 (Xl v (an ⟨x,0,ba⟩) j (an ⟨y,0,ba⟩) k r s o p l m (an ⟨i,0,ba⟩) d (an ⟨f,0,ba⟩) b) rfl rfl zC.there Yr zA ?_;try rw[<-R]
  refine z.out _ _ g (λY=> ?_);clear z K;try simp only[Act.put]
  refine wpAnyH_done Yr ?_ _;go_wp2_with fail;go_meet;exact⟨x,j,y,k,r,s,o,p,l,m,q,i,d,f,b,c⟩
 obtain⟨x,j,y,k,r,s,o,p,l,m,q,i,d,f,b,Y⟩:=hcut;go_wp2;refine bodyPost_ret (AM results146 _ _ (w.1.size+1) (Xm v (an ⟨x,0,ba⟩) j (an ⟨y,0,ba⟩) k r s o p l m (an ⟨i,0,ba⟩) d (an ⟨f,0,ba⟩) b) _ rfl Y.1.range underlying34 rfl Yr) rfl ?_;refine⟨_,_,_,_,_,_,_,q,rfl,Y.2.2.1,λu z=> ?_,Y.2.1⟩;rcases Cf.1 z with rfl|z
 .exact⟨_,_,_,rfl⟩
 rcases Cf.1 z with rfl|z
 .exact⟨_,_,_,rfl⟩
 rcases Cf.1 z with rfl|z
 .exact⟨_,_,_,rfl⟩
 rcases Cf.1 z with rfl|z
 .exact⟨_,_,_,rfl⟩
 exact Y.2.2.2 u z
def vaS(g k g3 q3 r3 g5 k5:Nat)(v:Vd):Va:=⟨an ⟨g,0,ba⟩,eh v.ss,an ⟨k,0,ba⟩,eh v.C,an ⟨g3,0,ba⟩,eh v.B,an ⟨q3,0,ba⟩,eh v.ps,an ⟨r3,0,ba⟩,eh v.ls,an ⟨g5,0,ba⟩,eh v.H,an ⟨k5,0,ba⟩,eh v.ms⟩
def VRx(v:Vd)(L:Nat)(X:Zh)(cs:Zj):Prop:=
 ∃g k g3 q3 r3 g5 k5,cs=[Zg v.wd,Zg v.lim,cr (an ⟨g,0,ba⟩) (eh v.ss) (eh v.ss),cr (an ⟨k,0,ba⟩) (eh v.C) (eh v.C),Zg v.J,Zg v.F,Zg v.G,Zg v.E,cr (an ⟨g3,0,ba⟩) (eh v.B) (eh v.B),cr (an ⟨q3,0,ba⟩) (eh v.ps) (eh v.ps),cr (an ⟨r3,0,ba⟩) (eh v.ls) (eh v.ls),Zg v.I,cr (an ⟨g5,0,ba⟩) (eh v.H) (eh v.H),cr (an ⟨k5,0,ba⟩) (eh v.ms) (eh v.ms),Zg v.N,Zg v.M,Zg v.ro]/\Bc X L (vaS g k g3 q3 r3 g5 k5 v) v/\EY X ⟨g3,0,ba⟩ v.B
def VOx(v:Vd)(lo N:Nat)(X:Zh)(cs:Zj):Prop:=
 (N<=X.1.size/\lo<=X.1.size)/\∃g k g3 q3 r3 g5 k5 rs,cs=Bd v (cr (an ⟨g,0,ba⟩) (eh v.ss) (eh v.ss)) (cr (an ⟨k,0,ba⟩) (eh v.C) (eh v.C)) (cr (an ⟨g3,0,ba⟩) (eh v.B) (eh v.B)) (cr (an ⟨q3,0,ba⟩) (eh v.ps) (eh v.ps)) (cr (an ⟨r3,0,ba⟩) (eh v.ls) (eh v.ls)) (cr (an ⟨g5,0,ba⟩) (eh v.H) (eh v.H)) (cr (an ⟨k5,0,ba⟩) (eh v.ms) (eh v.ms))/\AF X lo (cr (an ⟨g,0,ba⟩) (eh v.ss) (eh v.ss)) (cr (an ⟨k,0,ba⟩) (eh v.C) (eh v.C)) (cr (an ⟨g3,0,ba⟩) (eh v.B) (eh v.B)) (cr (an ⟨q3,0,ba⟩) (eh v.ps) (eh v.ps)) (cr (an ⟨r3,0,ba⟩) (eh v.ls) (eh v.ls)) (cr (an ⟨g5,0,ba⟩) (eh v.H) (eh v.H)) (cr (an ⟨k5,0,ba⟩) (eh v.ms) (eh v.ms)) rs v/\(∀b∈Df (cr (an ⟨g,0,ba⟩) (eh v.ss) (eh v.ss)) (cr (an ⟨k,0,ba⟩) (eh v.C) (eh v.C)) (cr (an ⟨g3,0,ba⟩) (eh v.B) (eh v.B)) (cr (an ⟨q3,0,ba⟩) (eh v.ps) (eh v.ps)) (cr (an ⟨r3,0,ba⟩) (eh v.ls) (eh v.ls)) (cr (an ⟨g5,0,ba⟩) (eh v.H) (eh v.H)) (cr (an ⟨k5,0,ba⟩) (eh v.ms) (eh v.ms)) rs,b<N)/\∀x∈rs,∃q n c,x=cr (an ⟨q,0,ba⟩) n c
theorem Be.ksome{X:Zh}{v g c:Nat}{P L:D4}{b:Zj}{f:List Kd}{y:List Pd}{w:List Ld}(h:Be X v (cr (an ⟨g,0,ba⟩) (eh f) c) P L b f y w)(s:∀x∈b,∃q n c,x=cr (an ⟨q,0,ba⟩) n c):EY X ⟨g,0,ba⟩ f:=λi k j=>by
 have r:=(Zw j).1;have l:i<eh b:=by rw[h.len];exact r
 obtain⟨t,q,n,d,e⟩:=Zv l,s _ (getElem_mem l);have m:=(h.D i k _ j t);have⟨a,z,j⟩:=Au m;have u:(f.zip b)[i]?=an (k,b[i]):=gG;have o:=BU CB u (show 3<4 by decide);have p:=h.ak.cellAt (i *4+3) Yv;rw[e]at j;injection j with e1 e2 e3;refine⟨⟨q,0,ba⟩,d,?_⟩;rw[Ay,p,o,<-e2,<-e];rfl
theorem VOx.ia{e:Zj}(h:VOx v n N X e):VRx v X.1.size X e:=by obtain⟨_,g,k,f,o,p,i,m,u,rfl,a,_,j⟩:=h;have⟨w,x,s,t,q,r,b,c,d,l⟩:=a.st.rows;injection b with b;injection c with c;injection d with d;subst b c d;exact⟨g,k,f,o,p,i,m,rfl,⟨a.s.ia,a.u.ia,l,a.q.ia,a.m.ia⟩,a.st.ksome j⟩
def TOa(t:Zi)(refs ss:Zl)(lo N:Nat)(X:Zh)(cs:Zj):Prop:=
 (N<=X.1.size/\lo<=X.1.size)/\eh ss=eh refs/\∃ra rc,cs=[.string t,cr ra (eh refs) rc]/\FA X lo ra ss/\(refs≠[]->∀b,Acl ra=an b->b<N)
theorem TOa.ah{t:Zi}{a j:Zl}{c:Zh}{f:Zj}(h:TOa t a j e N X f)(d:X.1.size<=c.1.size)(n:∀q,e<=q->q<N->c.1[q]?=X.1[q]?):TOa t a j e N c f:=by
 obtain⟨i,m,p,r,rfl,k,g⟩:=h;refine⟨⟨Zm i.1 d,Zm i.2 d⟩,m,p,r,rfl,?_,g⟩;by_cases hne:a=[]
 .exact dp (B8 gA)
 exact k.stays d (λb l o _=>n b o (g hne b l))
def Hc(v:Vd):UR:=⟨v.B,v.I,v.N,v.M,v.ro,v.H,v.ms,[]⟩
theorem Vr(h:BZ v r):Mq v.E v.B v.ps v.ls (4000 -eh (v.ss++v.C)) (Hc v):=by have a:=h.dx;have b:=h.round;have d:=b.dw.nq;have c:=b.dw.nm;exact⟨⟨a.bk.len,a.cz,a.np,a.nl,a.ay,a.aj,b.jq,b.jn,by show eh v.H<=_;omega⟩,List.Sublist.refl _,by show eh v.H<=_;omega,by show eh v.ms<=_;omega,by show 0+eh v.B<=600;have:=a.bk.len;omega,Aq _⟩
def II(wd:Int)(s:Zi):Zi:=Cv 7 s ⟨#[]⟩ 0 ⟨#[]⟩ [] wd
def Bg(v:Vd)(u:UR):Vd:=⟨v.wd,v.lim,v.ss,v.C++u.ds.map (II v.wd),v.J,v.F,v.G,v.E,u.B,v.ps,v.ls,u.I,u.H,u.ms,u.N,u.M,u.ro⟩
def JS(c:Int)(vs:Zj)(n:Int)(D:Value):Zj:=Zg c::(vs++[Zg n,D])
def z20(c:Int):Zj:=[Zg c,Ze,Ze,Zb,Zb,Ze,Ze,Ze,Ze,Zb,Zb,Zb,Ze,Zb,Zb,Ze,Ze,Ze,Ze,Zb]
theorem XK{a:Zj}(h:eh a=17):prog.built 176 [(1,ct (ei a))]=an (ei (JS 0 a 0 Zb)):=by
 obtain⟨j,k,l,m,n,o,p,q,r,s,b,c,d,e,f,g,i,rfl⟩:=IY h
 kernel_rfl
def Fl(v:Vd)(o:Option (UR×Nat)):Prop:=∀p∈o,BW v/\Mq v.E v.B v.ps v.ls (4000 -eh (v.ss++v.C)) p.1
def SwA(v:Vd)(o:Option (UR×Nat))(lo:Nat)(w:Zh)(cs:Zj):Prop:=
 match o with
 |none=>cs=z20 1
 |some (u,n)=>∃S U T P L Q M rs D,cs=JS 0 (Bd (Bg v u) S U T P L Q M) n D/\AF w lo S U T P L Q M rs (Bg v u)/\Ak w lo D u.ds/\∀g,Al D=an g->g∉Df S U T P L Q M rs
structure Ky (w:Zh) (a:Va) (v:Vd):Prop where
 rows:Bc w w.1.size a v
 s:a.Y=ba->eh v.ss=0/\a.sc=0
 t:a.V=ba->eh v.C=0/\a.T=0
 q:Dy a.Z (eh v.H) a.y
 m:Dy a.g (eh v.ms) a.j
 k:∀A,a.Q=an A->FY w A v.B
 p:a.L=ba->a.P=0
 l:a.K=ba->a.O=0
 ls:eh v.ss<=1048576
 lt:eh v.C<=1048576
 lq:eh v.H<=100000000
 lm:eh v.ms<=100000000
 nk:eh v.B<=600
 np:eh v.ps<=100
 nl:eh v.ls<=200
 cz:∀k∈v.B,eh k.D<=30
theorem Ky.A{d:Zh}{a:Va}(h:Ky w a v)(c:Zz w d):Ky d a v:=
 ⟨h.rows.X c,h.s,h.t,h.q,h.m,(λA e=>by have f:=h.k A e;have b:=h.rows.st.k;rw[e]at b;exact f.ah b c),h.p,h.l,h.ls,h.lt,h.lq,h.lm,h.nk,h.np,h.nl,h.cz⟩
theorem Gk(v:Vd)(a:Va)(w:Zh)(h:Ky w a v):
 D8 146 #[ct (ei (Bd v (C3 a.Y (eh v.ss) a.sc) (C3 a.V (eh v.C) a.T) (C3 a.Q (eh v.B) a.W) (C3 a.L (eh v.ps) a.P) (C3 a.K (eh v.ls) a.O) (C3 a.Z (eh v.H) a.y) (C3 a.g (eh v.ms) a.j)))] w λe b=>∃(S U T P L Q M:D4) (rs:Zj),e=C5 (ct (ei (Bd v S U T P L Q M)))/\AF b w.1.size S U T P L Q M rs v/\(∀u∈S::U::Q::M::T::P::L::rs,∃g n c,u=Yz g n c)/\Zz w b:=
 Rl v a w (λ_ b=>NQ _ _ (h.A b).rows.s (h.A b).rows.t h.s h.t h.ls h.lt) (λ_ b=>FK _ _ _ _ _ _ _ (h.A b).rows.st (h.A b).k h.p h.l h.nk h.np h.nl h.cz) (λ_ b=>GH _ _ _ _ _ _ (h.A b).rows.q (h.A b).rows.m h.q.2 h.m.2 h.lq h.lm)
theorem Be.kcp{s:Nat}{f:Zk}{w:Nat}{a:Zj}{c:C9}{u:Db}{t:Da}(h:Be X s (C3 f n w) P L a c u t):∀A,f=an A->FY X A c:=λA d i k b v e=>by
 subst d;have o:=(Zw b).1;have p:i<eh a:=by rw[h.len];exact o
 have q:=Zv p;have d:=h.D i k _ b q;have r:(c.zip a)[i]?=an (k,a[i]):=gG;have j:=BU CB r (show 3<4 by decide);rcases h.ak.2 with⟨b,_⟩|⟨g,x,y,b,_⟩
 .cases b
 cases b;have l:=h.ak.cellAt (i *4+3) Yv;rw[Ay,l,j]at e;have m:a[i]=C2 ba k.D v:=N3;rw[m]at d;exact DF d rfl
structure Jc (w:Zh) (a:Va) (v:Vd):Prop where
 s:Dy a.Y (eh v.ss) a.sc
 t:Dy a.V (eh v.C) a.T
 q:Dy a.Z (eh v.H) a.y
 m:Dy a.g (eh v.ms) a.j
 k:∀A,a.Q=an A->FY w A v.B
 p:a.L=ba->a.P=0
 l:a.K=ba->a.O=0
 so:∃rs,Be w 0 (cr a.Q (eh v.B) a.W) (cr a.L (eh v.ps) a.P) (cr a.K (eh v.ls) a.O) rs v.B v.ps v.ls/\∀g,Al (cr a.V (eh v.C) a.T)=an g->g∉BP (cr a.Q (eh v.B) a.W) (cr a.L (eh v.ps) a.P) (cr a.K (eh v.ls) a.O) rs
 tw:Ak w 0 (cr a.V (eh v.C) a.T) v.C
def MB(v:Vd)(L:Nat)(X:Zh)(cs:Zj):Prop:=
 ∃a:Va,cs=Bd v (cr a.Y (eh v.ss) a.sc) (cr a.V (eh v.C) a.T) (cr a.Q (eh v.B) a.W) (cr a.L (eh v.ps) a.P) (cr a.K (eh v.ls) a.O) (cr a.Z (eh v.H) a.y) (cr a.g (eh v.ms) a.j)/\Bc X L a v/\Jc X a v
theorem RW{q e h c o m:Zk}{r f k d:Nat}{b:Zj}(u:Ak X b1 (C3 q (eh v.ss) r) v.ss)(l:Ak X b2 (C3 e (eh v.C) f) v.C)(a:Be X b3 (C3 j (eh v.B) k) (C3 h (eh v.ps) i) (C3 c (eh v.ls) d) b v.B v.ps v.ls)(t:Ak X b4 (C3 o (eh v.H) p) v.H)(s:Ak X b5 (C3 m (eh v.ms) n) v.ms)(w:∀g,Al (C3 e (eh v.C) f)=an g->g∉BP (C3 j (eh v.B) k) (C3 h (eh v.ps) i) (C3 c (eh v.ls) d) b):
 MB v X.1.size X (Bd v (C3 q (eh v.ss) r) (C3 e (eh v.C) f) (C3 j (eh v.B) k) (C3 h (eh v.ps) i) (C3 c (eh v.ls) d) (C3 o (eh v.H) p) (C3 m (eh v.ms) n)):=
 ⟨⟨q,r,e,f,j,k,h,i,c,d,o,p,m,n⟩,rfl,⟨u.ia,l.ia,a.get,t.ia,s.ia⟩,⟨u.cap,l.cap,t.cap,s.cap,a.kcp,DF a.pins,DF a.ax,⟨b,a.ai (Aq _),w⟩,l.ai (Aq _)⟩⟩
theorem AF.je{S:D4}{f:Zj}(h:AF X a S U T P L Q M f v):MB v X.1.size X (Bd v S U T P L Q M):=by obtain⟨s,u,c,q,m,b⟩:=h;obtain⟨A,B,rfl,i⟩:=s.row;obtain⟨E,F,rfl,j⟩:=u.row;obtain⟨C,D,w,x,o,p,rfl,rfl,rfl,k⟩:=c.rows;obtain⟨y,z,rfl,l⟩:=q.row;obtain⟨r,t,rfl,n⟩:=m.row;refine RW s u c q m (λg e d=> ?_);unfold Df at b;exact(nodup_append.1 b).2.2 g (mem_append_right _ (By.2 e)) g (mem_append_left _ d) rfl
theorem AF.jd{d:Zh}{S:D4}{i:Zj}(h:AF d a S U T P L Q M i v)(k:n<=a)(e:Zz d X):∀V c,(∀b∈V,b<n)->Tn V X c->MB v c.1.size c (Bd v S U T P L Q M):=λV c f hT=>by refine(h.stays (((Tn.of (V:=[]) e).ai Yu).ag hT) (λb g c=> ?_)).je;have j:=h.lo b c;have:=f b g;omega
theorem Ade{e:Ed}{l p n f s:Zk}{y j w:Nat}{b k:Zl}{d:Zj}(D:v.wd=v.J)(J:Ak X b1 (C3 x (eh v.ss) y) v.ss)(K:Ak X b2 (C3 l c m) b)(E:b=v.C++[e.cj v.wd])(F:c=eh b)(C:Be X b3 (C3 p (eh r.B) q) (C3 n (eh r.ps) o) (C3 f (eh r.ls) i) d r.B r.ps r.ls)(I:Ak X b4 (C3 u j w) k)(B:k=shQ v.I r.B v.H v.ms (e.held r))(A:j=eh k)(H:Ak X b5 (C3 s (eh v.ms) t) v.ms)(z:∀g,Al (C3 l c m)=an g->g∉BP (C3 p (eh r.B) q) (C3 n (eh r.ps) o) (C3 f (eh r.ls) i) d):
 MB (doV v e r) X.1.size X [Zg v.wd,Zg v.lim,C3 x (eh v.ss) y,C3 l c m,Zg v.wd,Zg r.F,Zg r.G,Zg r.E,C3 p (eh r.B) q,C3 n (eh r.ps) o,C3 f (eh r.ls) i,Zg v.I,C3 u j w,C3 s (eh v.ms) t,Zg v.N,Zg v.M,Zg v.ro]:=by
 subst F A;subst E B;obtain⟨a,h,G⟩:=RW (v:=doV v e r) (b1:=b1) (b2:=b2) (b3:=b3) (b4:=b4) (b5:=b5) J K C I H z;refine⟨a,?_,G⟩;rw[<-h];unfold Bd doV;simp only[<-D]
def SDb(v:Vd)(e:Ed)(w:Zh)(o:Ending)(w':Zh):Prop:=
 ∃d vs,Gj v e d/\o=.returned (ct (ei (dL d vs)))/\(∀V X',(∀b∈V,b<w.1.size)->Tn V w' X'->MB d.v X'.1.size X' vs)/\Zz w w'
theorem Kz{e:Ed}{c D:Zj}{d:Dd}(f:Aa X (w.1.size+2) Fg/\Zz w X)(l:∀V a,(∀b∈V,b<w.1.size+3)->Tn V X a->MB d.v a.1.size a c)(k:Gj v e d)(n:eh c=17/\∀u∈c,u.oneCell'=bg)(i:D=dL d c):
 (eh D=22/\∀u∈D,u.oneCell'=bg)/\X.there (w.1.size+2) 0 (ei D).size/\Aa (X.setCells (w.1.size+2) 0 (ei D).toList) (w.1.size+2) D/\SDb v e w (.returned (ct (ei D))) (X.setCells (w.1.size+2) 0 (ei D).toList):=by
 have g:eh D=22/\∀u∈D,u.oneCell'=bg:=by rw[i];exact My n
 have j:=AD (w.1.size+2) D 0 X;refine⟨g,?_,f.1.aw D (by rw[g.1];rfl),d,c,k,by rw[i],λV a m hT=>l ((w.1.size+2)::V) a (λb a=> ?_) ((j.ai Yu).ag (hT.ai gA)),f.2.ag (j.A f.2.size Yu)⟩
 .rw[show (ei D).size=22 from by rw[A0];exact g.1];exact f.1.there
 rcases Cf.1 a with h|h
 .omega
 have:=m b h;omega
theorem Jc.cap{a:Va}(h:Jc w a v):Kv a v:=⟨h.s.2,h.t.2,h.m.1⟩
theorem Jc.A{d:Zh}{a:Va}(h:Jc w a v)(g:Bc w w.1.size a v)(b:Zz w d):Jc d a v:=
 ⟨h.s,h.t,h.q,h.m,(λA e=>by have f:=h.k A e;have c:=g.st.k;rw[e]at c;exact f.ah c b),h.p,h.l,h.so.imp (λ_ h=>⟨h.1.A b,h.2⟩),h.tw.A b⟩
theorem Jc.cp{a:Va}(h:Jc w a v)(e:Bc w w.1.size a v)(b:Dz v)(f:BW v):Ky w a v:=by
 obtain⟨r,d⟩:=f;have c:=Vr d;have g:eh v.B<=600:=by have:=c.dl;unfold Hc at this;simp at this;omega
 exact⟨e,h.s.2,h.t.2,h.q,h.m,h.k,h.p,h.l,b.s,b.t,Dl b.r.q,Dl b.r.m,g,c.w.pl,c.w.ll,c.w.cz⟩
theorem Aeh(v:Vd)(e:Ed)(sa ta:Zk)(sc tc:Nat)(b0 b1 b2 b3 b4 b5 b6 c0 c1 c2 c3 c4 c5:D4)(ra:Zk)(rc:Nat)(K:Zj->List Nat->Zh->Prop)(Z:Rs->Zk->Nat->Zk->Nat->Zk->Nat->Zh->Prop)(w:Zh)(hlen:eh v.ss<=1048576/\eh v.C<=1048576)(q:∀X,Zz w X->D8 5 #[ct #[Zg v.wd,Zg v.lim,C3 sa (eh v.ss) sc,C3 ta (eh v.C) tc,b0,b1,b2,b3,b4,b5,b6,c0,c1,c2,c3,c4,c5]] X λo j=>Av (BW v) X j o)(F:BW v->∀X,Zz w X->D8 146 #[ct #[Zg v.wd,Zg v.lim,C3 sa (eh v.ss) sc,C3 ta (eh v.C) tc,b0,b1,b2,b3,b4,b5,b6,c0,c1,c2,c3,c4,c5]] X λo j=>∃sb s ub zF T P L qb n U m rs,o=C5 (ct (ei (Bd v (Yz sb (eh v.ss) s) (Yz ub (eh v.C) zF) T P L (Yz qb (eh v.H) n) (Yz U (eh v.ms) m))))/\AF j X.1.size (Yz sb (eh v.ss) s) (Yz ub (eh v.C) zF) T P L (Yz qb (eh v.H) n) (Yz U (eh v.ms) m) rs v/\Zz X j)(a:∀X,Zz w X->D8 74 #[ct (Ye e.kd e.s e.nm e.R e.tx ra (eh e.rf) rc),Zg v.wd] X λo j=>o=C5 (ef (e.ok v.wd))/\Zz X j)(i:BW v->∀X,Zz w X->D8 46 #[ct #[b0,b1,b2,b3,b4,b5,b6]] X λo j=>∃cs V,o=C5 (ct (ei cs))/\Zz X j/\(∀b∈V,X.1.size<=b/\b<j.1.size)/\K cs V j)(d:∀cs V X j,K cs V X->Zz X j->K cs V j)(hA:BW v->e.ok v.wd=bg->∀cs V X,Zz w X->K cs V X->D8 45 #[ct (ei cs),ct (Ye e.kd e.s e.nm e.R e.tx ra (eh e.rf) rc)] X λo j=>Tn V X j/\∃H,o=C5 (ct (ei H))/\Kx v e Z j H)(hZ:∀r O Q M G I J X,BW v->e.ok v.wd=bg->e.yes v r->Z r O Q M G I J X->∀y j,X.1[y]?=an (ca (ei z12) 42)->Tn [y] X j->Z r O Q M G I J j)(t:∀r O Q M G I J X,Z r O Q M G I J X->∀j,Zz X j->Z r O Q M G I J j)(c:BW v->e.ok v.wd=bg->e.kd=1->∀r O Q M G I J X,e.yes v r->Z r O Q M G I J X->D8 176 #[ct (Yg v.wd r.F r.G r.E O (eh r.B) Q M (eh r.ps) G I (eh r.ls) J)] X λo j=>o=C5 (Zg (Ey v.wd r.B))/\Zz X j)(Y:e.ok v.wd=bg->∀X,Zz w X->D8 43 #[ct (Ye e.kd e.s e.nm e.R e.tx ra (eh e.rf) rc),Zg v.wd] X λo j=>o=C5 (C4 (e.cj v.wd))/\Zz X j)(B:BW v->e.ok v.wd=bg->∀r O Q M G I J X,e.yes v r->Z r O Q M G I J X->D8 46 #[ct (Yg v.wd r.F r.G r.E O (eh r.B) Q M (eh r.ps) G I (eh r.ls) J)] X λo j=>∃T2 P2 L2 yW,o=C5 (ct #[Zg v.wd,Zg r.F,Zg r.G,Zg r.E,T2,P2,L2])/\Be j X.1.size T2 P2 L2 yW r.B r.ps r.ls/\Zz X j)(h:BW v->e.ok v.wd=bg->∀r X T2 P2 L2 yW f qb n U m,e.yes v r->Be X f T2 P2 L2 yW r.B r.ps r.ls->Ak X f (Yz qb (eh v.H) n) v.H->Ak X f (Yz U (eh v.ms) m) v.ms->D8 177 #[ct #[Zg v.wd,Zg r.F,Zg r.G,Zg r.E,T2,P2,L2],ct (Xy v.I (an ⟨qb,0,ba⟩) (eh v.H) n (an ⟨U,0,ba⟩) (eh v.ms) m v.N v.M v.ro),C4 (e.held r)] X λo j=>Zz X j/\∃Q3 M3,o=C5 (ct #[Zg v.I,Q3,M3,Zg v.N,Zg v.M,Zg v.ro])/\Ak j X.1.size Q3 (shQ v.I r.B v.H v.ms (e.held r))/\Ak j X.1.size M3 v.ms)(N:BW v->∀r,e.yes v r->(e.kd=1->r.sm≠⟨#[]⟩)/\(e.held r=⟨#[]⟩->(shQ v.I r.B v.H v.ms (e.held r))=v.H))(u:BW v->v.wd=v.J/\eh v.ss+eh v.C<=4000):
 D8 144 #[ct #[Zg v.wd,Zg v.lim,C3 sa (eh v.ss) sc,C3 ta (eh v.C) tc,b0,b1,b2,b3,b4,b5,b6,c0,c1,c2,c3,c4,c5],ct (Ye e.kd e.s e.nm e.R e.tx ra (eh e.rf) rc)] w (SDb v e w):=by
 obtain⟨W,f⟩:=Ag (((w.alloc (ca #[Zg v.wd,Zg v.lim,C2 sa v.ss sc,C2 ta v.C tc,b0,b1,b2,b3,b4,b5,b6,c0,c1,c2,c3,c4,c5] 34)).alloc (ca (Ye e.kd e.s e.nm e.R e.tx ra (eh e.rf) rc) 91)).alloc (ca Xk 166));obtain⟨bW,zW,xV,xE⟩:=(BI f).1,(BI f).2.1,(BI f).2.2.1,(BI f).2.2.2.1;have A:Aa W (w.1.size+2) Fg:=(BI f).2.2.2.2;have k:Hid (∀X,Zz W X->Aa X w.1.size [Zg v.wd,Zg v.lim,C2 sa v.ss sc,C2 ta v.C tc,b0,b1,b2,b3,b4,b5,b6,c0,c1,c2,c3,c4,c5]/\Aa X (w.1.size+1) (Xz e.kd e.s e.nm e.R e.tx ra (eh e.rf) rc)/\Aa X (w.1.size+2) Fg/\Zz w X):=λX hX=>⟨Aa.A xV hX,Aa.A xE hX,Aa.A (v:=Ze) A hX,bW.ag (hX.ai bW.size)⟩;obtain⟨HL,E,yC,D,g⟩:=Yw hlen,Yw q,Yw F,Yw a,Yw i;obtain⟨HK,p,HZ,yD,C,HF,zV,zC,yJ,yK,x⟩:=Yw d,Yw hA,Yw hZ,Yw t,Yw c,Yw Y,Yw B,Yw h,Yw N,Yw u,Yw f;clear f xV xE A hlen q F a i d hA hZ t c Y B h N u;delta D8;go_in;go_upto_region 1 with fail;rw[<-x.o];clear x
 go_wp2_with (refine wpList_load_mid rfl 34 _ rfl w.1.size 0 rfl [Zg v.wd,Zg v.lim,C2 sa v.ss sc,C2 ta v.C tc,b0,b1,b2,b3,b4,b5,b6,c0,c1,c2,c3,c4,c5] _ (k W Ae).1.range underlying34 rfl Yr ?_);refine Calls.mono (E W bW) ?_;rintro o w1 ⟨b1,rfl,B,i⟩;clear E;cases b1 with
 |false=>
  have xI:¬BW v:=λh=>by have:=B.2 h;cases this
  obtain⟨⟨_,_,A,b1⟩,W9,f⟩:=k w1 i,Ag (w1.setCells (w.1.size+2) 0 (Xj 1));have E:Aa W9 (w.1.size+2) (Xj 1):=by rw[f];exact A.aw _ rfl
  have sQ:Hid (Zz w W9):=b1.ag (by rw[f];exact(AD _ _ _ _).A b1.size Yu);obtain⟨tT,sV,sS,sU⟩:=Yw (Zn (show((Xi 1):Array Value).all (·.oneCell')=bg by simp[oneCell']) A.there),Yw E,Yw xI,Yw f;clear f E xI A b1 k yC D g HK p HZ yD C HF zV zC yJ yK HL i B
  go_wp2_with (refine wpList_store_mid rfl 166 _ _ rfl (w.1.size+2) 0 (Xi 1) rfl rfl tT.2 Yr tT.1 ?_);rw[<-sU.o];refine bodyPost_ret (AM results144 _ _ (w.1.size+2) (Xj 1) _ rfl (Aa.range sV) underlying166 rfl Yr) rfl ?_;exact⟨Fv 1 v0 ⟨#[]⟩ ⟨#[]⟩,Xn,dp ⟨sS,rfl⟩,rfl,λV j _ _=>(AF.nil j 0).je,sQ⟩
 |true=>
  have f:=B.1 rfl;have zS:Hid (BW v):=f;replace yC:=Yw (yC f);replace g:=Yw (g f);replace p:=Yw (p f);replace C:=Yw (C f);replace zV:=Yw (zV f);replace zC:=Yw (zC f);replace yJ:=Yw (yJ f);replace yK:=Yw (yK f);have A:Hid (Zz W w1):=i;clear B f i;go_wp2_with (refine wpList_load_mid rfl 34 _ rfl w.1.size 0 rfl [Zg v.wd,Zg v.lim,C2 sa v.ss sc,C2 ta v.C tc,b0,b1,b2,b3,b4,b5,b6,c0,c1,c2,c3,c4,c5] _ (k w1 A).1.range underlying34 rfl Yr ?_);refine(yC w1 (k w1 A).2.2.2).ai ?_;rintro o i ⟨sb,s,ub,zF,T,P,L,qb,n,U,m,rs,rfl,tG,tI⟩;have⟨vs,yN⟩:=Ag (Bd v (C6 sb v.ss s) (C6 ub v.C zF) T P L (C6 qb v.H n) (C6 U v.ms m));have yV:eh vs=17/\∀u∈vs,u.oneCell'=bg:=by have⟨a,h,_⟩:=tG.je;rw[yN];exact⟨rfl,by rw[h];simp[Bd,oneCell']⟩
  rw[<-yN];have z1:=A.size;have z2:=tI.size;have B:Hid (eh vs=17/\∀u∈vs,u.oneCell'=bg):=yV;have xR:Hid (w.1.size+3<=w1.1.size/\w1.1.size<=i.1.size):=⟨Yv,z2⟩;have tA:=A.ag (tI.ai z1);have yI:Hid (∀X,Zz i X->∀V j,(∀b∈V,b<w.1.size+3)->Tn V X j->MB v j.1.size j vs):=λX hX=>by rw[yN];exact tG.jd xR.1 hX
  have E:Hid (∀X,Zz i X->Aa X w.1.size [Zg v.wd,Zg v.lim,C2 sa v.ss sc,C2 ta v.C tc,b0,b1,b2,b3,b4,b5,b6,c0,c1,c2,c3,c4,c5]/\Aa X (w.1.size+1) (Xz e.kd e.s e.nm e.R e.tx ra (eh e.rf) rc)/\Aa X (w.1.size+2) Fg/\Zz w X):=λX hX=>k X (tA.ag (hX.ai tA.size));have⟨D0,c⟩:=Ag (dL (Fv 0 v ⟨#[]⟩ ⟨#[]⟩) vs);have q:eh D0=22/\∀u∈D0,u.oneCell'=bg:=by rw[c];exact My yV
  have vO:Hid (prog.built 166 [(1,ct (ei vs))]=an (ei D0)):=by show _=an (ei D0);rw[c];exact SY yV.1
  have⟨W3,tF⟩:=Ag ((i.alloc (ca Xk 166)).setCells i.1.size 0 (ei D0).toList);have hb:=boxed (X:=i) (cs:=D0) (z:=Fg) (T:=166) (by rw[q.1];rfl);have e3:W3=(i.alloc (ca (ei Fg) 166)).setCells i.1.size 0 D0:=tF;rw[<-e3]at hb;obtain⟨x3,b3,z3⟩:=hb;have N:Hid ((i.alloc (ca Xk 166)).there i.1.size 0 (ei D0).size/\eh D0=22/\∀x∈D0,x.oneCell'=bg):=⟨by rw[show (ei D0).size=22 from by rw[A0];exact q.1];exact(Aa.new i Fg 166).there,q⟩;have F:Hid (Aa W3 i.1.size (dL (Fv 0 v ⟨#[]⟩ ⟨#[]⟩) vs)):=by show Aa W3 i.1.size _;rw[<-c];exact x3
  have f:Hid (Zz i W3):=b3;have sA:=Yw tF;have rG:W3.1.size=i.1.size+1:=z3;clear tF e3 x3 b3 z3 c q tG tI yN yV tA k A z1 z2;go_upto_region 4 with(first
   |refine Hb rfl 166 _ rfl [(1,ct (ei vs))] Yr (ei D0) vO ?_
   |refine wpList_store_mid rfl 166 _ _ rfl i.1.size 0 (ei D0) rfl rfl N.1 (by rw[A0,N.2.1];kernel_rfl) (all_oneCell_toArray N.2.2) ?_)
  rw[<-sA.o];clear sA vO N
  as_aux_lemma=>
  obtain⟨q,_⟩:=(E W3 f).1 0 _ rfl;go_wp2_with (refine wpList_load_mid rfl 91 _ rfl (w.1.size+1) 0 rfl (Xz e.kd e.s e.nm e.R e.tx ra (eh e.rf) rc) _ (E W3 f).2.1.range underlying91 rfl Yr ?_);refine(D W3 (E W3 f).2.2.2).ai ?_;rintro o k ⟨rfl,A⟩;have z4:=A.size;have c:Hid (Zz i k):=f.ag (A.ai f.size);have N:=Yw (Aa.same F (A.block _ Yv));have vR:Hid (i.1.size<k.1.size):=by show i.1.size<k.1.size;omega
  clear q D F f A z4 rG;cases hoe:e.ok v.wd with
  |false=>
   have zJ:Hid (Gj v e (Fv 1 v ⟨#[]⟩ ⟨#[]⟩)):=eb ⟨zS,dp ⟨1,⟨#[]⟩,⟨#[]⟩,dp ⟨hoe,rfl,rfl,rfl⟩,rfl⟩⟩;have A:=c.o;clear hoe yC g HK p HZ yD C HF zV zC yJ yK HL;obtain⟨⟨⟨k0,g0⟩,_⟩,Y9,f⟩:=OK N B.1,D7 k (i.1.size) 0 (Zg 1);have yB:Aa Y9 i.1.size (dL (Fv 1 v ⟨#[]⟩ ⟨#[]⟩) vs):=(by rw[f];exact Nh N 1);have zB:bs i.1.size i Y9:=Ng;have zX:=Yw f;have zK:=Yw yB;clear f yB A;go_upto_region 6 with fail;rw[<-zX.o];clear zX k0 g0;have⟨D,hD⟩:∃t:Zj,t=dL (Fv 1 v ⟨#[]⟩ ⟨#[]⟩) vs:=⟨_,rfl⟩;have xD:Hid (Aa Y9 i.1.size D):=by rw[hD];exact zK.o
   have F:=Yw (Kz (E Y9 zB).2.2 (yI Y9 zB) zJ B hD);clear hD zB yI E B;go_wp2_with (first
    |refine wpList_load_mid rfl 166 _ rfl i.1.size 0 rfl D _ xD.range underlying166 rfl G5 ?_
    |refine wpList_store_mid rfl 166 _ _ rfl (w.1.size+2) 0 (ei D) rfl rfl F.2.1 J3 (all_oneCell_toArray F.1.2) ?_)
   exact bodyPost_ret (AM results144 _ _ (w.1.size+2) D _ rfl (Aa.range F.2.2.1) underlying166 rfl G5) rfl F.2.2.2
  |true=>
   have vP:Hid (e.ok v.wd=bg):=hoe;replace p:=Yw (p hoe);replace C:=Yw (C hoe);replace HF:=Yw (HF hoe);replace zV:=Yw (zV hoe);replace zC:=Yw (zC hoe);have sC:Hid _:=λr O Q M G I J X=>HZ r O Q M G I J X zS hoe;clear hoe HZ
   as_aux_lemma=>
   go_upto_region 7 with fail;go_cut [6] (λG wx=>∃(y:Nat) (H:Zj),G=Yy y/\Hid (Aa wx y H/\k.1.size<=y/\Zz k wx/\Kx v e Z wx H))
   case first=>
    have xQ:Hid (∀X j,(Aa X w.1.size [Zg v.wd,Zg v.lim,C2 sa v.ss sc,C2 ta v.C tc,b0,b1,b2,b3,b4,b5,b6,c0,c1,c2,c3,c4,c5]/\Aa X (w.1.size+1) (Xz e.kd e.s e.nm e.R e.tx ra (eh e.rf) rc))->Zz X j->Aa j w.1.size [Zg v.wd,Zg v.lim,C2 sa v.ss sc,C2 ta v.C tc,b0,b1,b2,b3,b4,b5,b6,c0,c1,c2,c3,c4,c5]/\Aa j (w.1.size+1) (Xz e.kd e.s e.nm e.R e.tx ra (eh e.rf) rc)):=λX j h1 h2=>⟨Aa.A h1.1 h2,Aa.A h1.2 h2⟩;have vQ:Hid (∀X j (V:List Nat),(Aa X w.1.size [Zg v.wd,Zg v.lim,C2 sa v.ss sc,C2 ta v.C tc,b0,b1,b2,b3,b4,b5,b6,c0,c1,c2,c3,c4,c5]/\Aa X (w.1.size+1) (Xz e.kd e.s e.nm e.R e.tx ra (eh e.rf) rc))->(∀b∈V,k.1.size<=b)->Tn V X j->Aa j w.1.size [Zg v.wd,Zg v.lim,C2 sa v.ss sc,C2 ta v.C tc,b0,b1,b2,b3,b4,b5,b6,c0,c1,c2,c3,c4,c5]/\Aa j (w.1.size+1) (Xz e.kd e.s e.nm e.R e.tx ra (eh e.rf) rc)):=λX j V h1 h2 h3=>⟨Aa.same h1.1 (h3.block _ h1.1.lt (λh=>by have:=h2 _ h;have:=vR.o;have:=xR.o;omega)),Aa.same h1.2 (h3.block _ h1.2.lt (λh=>by have:=h2 _ h;have:=vR.o;have:=xR.o;omega))⟩;have vZ:Hid (∀X j y,(Aa X w.1.size [Zg v.wd,Zg v.lim,C2 sa v.ss sc,C2 ta v.C tc,b0,b1,b2,b3,b4,b5,b6,c0,c1,c2,c3,c4,c5]/\Aa X (w.1.size+1) (Xz e.kd e.s e.nm e.R e.tx ra (eh e.rf) rc))->k.1.size<=y->Tn [y] X j->Aa j w.1.size [Zg v.wd,Zg v.lim,C2 sa v.ss sc,C2 ta v.C tc,b0,b1,b2,b3,b4,b5,b6,c0,c1,c2,c3,c4,c5]/\Aa j (w.1.size+1) (Xz e.kd e.s e.nm e.R e.tx ra (eh e.rf) rc)):=λX j y h1 h2 h3=>vQ X j [y] h1 (by simp;exact h2) h3;have xP:Hid (∀X,Zz k X->Zz w X):=λX hX=>(E X (c.ag (hX.ai c.size))).2.2.2;have tP:Hid (∀X j H,Kx v e Z X H->Zz X j->Kx v e Z j H):=λX j H h1 h2=>by
     rcases h1 with h|⟨r,O,Q,M,G,I,J,h3,h4,h5⟩
     .exact dp h
     exact eb ⟨r,O,Q,M,G,I,J,h3,h4,yD.o _ _ _ _ _ _ _ _ h5 _ h2⟩
    have xK:Hid (∀X y H,k.1.size<=y->Zz k X->X.1[y]?=an (ca (ei z12) 42 (0,0))->Kx v e Z X H->Hid (Aa (X.setCells y 0 (ei H).toList) y H/\k.1.size<=y/\Zz k (X.setCells y 0 (ei H).toList)/\Kx v e Z (X.setCells y 0 (ei H).toList) H)):=λX y H h1 h2 h3 h4=>by
     have t:=AD y H 0 X;refine⟨(Aa.jm (l:=z12) h3).aw H (by rw[h4.small.1];rfl),h1,h2.ag (t.A h2.size (by simp;exact h1)),?_⟩;rcases h4 with h|⟨r,O,Q,M,G,I,J,h5,h6,h7⟩
     .exact dp h
     exact eb ⟨r,O,Q,M,G,I,J,h5,h6,sC.o _ _ _ _ _ _ _ _ h5 h7 y _ h3 t⟩
    refine wp_region_held_drew (S:=λX=>Aa X w.1.size [Zg v.wd,Zg v.lim,C2 sa v.ss sc,C2 ta v.C tc,b0,b1,b2,b3,b4,b5,b6,c0,c1,c2,c3,c4,c5]/\Aa X (w.1.size+1) (Xz e.kd e.s e.nm e.R e.tx ra (eh e.rf) rc)) Yr (show _/\_ from⟨(E k c).1,(E k c).2.1⟩) (λhS=> ?_);refine Cb 0 (Yx w.1.size 4) ?_;try simp only[Act.put,Dh]
    refine Gd 1 (ct #[b0,b1,b2,b3,b4,b5,b6]) rfl (by exact yieldsIf_load_mid Yp 30 _ rfl (w.1.size) 4 rfl [b0,b1,b2,b3,b4,b5,b6] _ (λX h=>Aa.dq [Zg v.wd,Zg v.lim,C2 sa v.ss sc,C2 ta v.C tc] [b0,b1,b2,b3,b4,b5,b6] [c0,c1,c2,c3,c4,c5] h.1) underlying30 rfl Yr) ?_;try simp only[Act.put,Dh]
    refine Gd 3 (ct (Ye e.kd e.s e.nm e.R e.tx ra (eh e.rf) rc)) rfl (by exact yieldsIf_load_mid Yp 91 _ rfl (w.1.size+1) 0 rfl (Xz e.kd e.s e.nm e.R e.tx ra (eh e.rf) rc) _ (λX h=>h.2.range) underlying91 rfl Yr) ?_;try simp only[Act.put,Dh]
    refine wpAnyH_ready (rs:=[2,5]) Yr Yu ?_;refine AllReadyH.cons (o:=⟨an 25,.call ⟨.value (.func 46),#[.tmp 24],#[30]⟩,30,GD,#[opD 1],ba⟩) rfl (λK d=> ?_) (AllReadyH.cons (o:=⟨an 6,.alloc 42,0,GD,#[],ba⟩) rfl (λK d=> ?_) AllReadyH.nil)
    .go_simp;refine(g k.drew (xP _ Ae.drew)).ai ?_;rintro o w5 ⟨cs,V,rfl,xF,tE,vU⟩;try go_simp
     refine d.out _ _ (xQ _ _ hS xF) (λxU=> ?_);clear d K;try simp only[Act.put,Dh]
     have zZ:bs k.1.size k w5:=(Below.refl k.1.size k).drew.ag xF;have yM:∀b∈V,k.1.size<=b/\b<w5.1.size:=tE;refine wpAnyH_ready (rs:=[4,5]) Yr Yu ?_;refine AllReadyH.cons (o:=⟨an 27,.call ⟨.value (.func 45),#[.tmp 25,.tmp 26],#[30,91]⟩,42,GD,#[opD 2,opD 3,⟨2,.chain⟩],ba⟩) rfl (λK d=> ?_) (AllReadyH.cons (o:=⟨an 6,.alloc 42,0,GD,#[],ba⟩) rfl (λK d=> ?_) AllReadyH.nil)
     .go_simp;refine(p cs V w5 (xP _ zZ) vU).ai ?_;rintro o w6 ⟨yE,H,rfl,zA⟩;have yU:=zA.small.1;have vA:=zA.small.2;try go_simp
      refine d.out _ _ (vQ _ _ V xU (λb hb=>(yM b hb).1) yE) (λq=> ?_);clear d K;try simp only[Act.put,Dh]
      have yR:bs k.1.size k w6:=zZ.ag (yE.A zZ.size (λb hb=>(yM b hb).1));refine CX 5 (λK d=> ?_);go_simp;refine d.out _ _ (xQ _ _ q (Zy)) (λxW=> ?_);clear d K;try simp only[Act.put,Dh]
      have nB:(w6.alloc (ca (ei z12) 42)).1[w6.1.size]?=an (ca (ei z12) 42 (0,0)):=heap_alloc_new _ _;have bB:bs w6.1.size w6 (w6.alloc (ca (ei z12) 42)):=(Zy);refine CX 6 (λK d=> ?_);rw[if_pos Yp];refine wp_store_mid 42 _ _ rfl w6.1.size 0 (ei H) rfl rfl F7 (by rw[A0,yU];kernel_rfl) (all_oneCell_toArray vA) ?_;refine d.out _ _ (vZ _ _ _ xW yR.size (AD _ _ _ _)) (λsE=> ?_);clear d K;try simp only[Act.put]
      refine wpAnyH_done Yr ?_ _;go_wp2_with fail;go_meet;exact⟨w6.1.size,H,rfl,xK.o _ w6.1.size H yR.size (yR.ag (bB.ai yR.size)) nB (tP _ _ _ zA bB)⟩
     go_simp;refine d.out _ _ (xQ _ _ xU (Zy)) (λq=> ?_);clear d K;try simp only[Act.put,Dh]
     have bB:bs w5.1.size w5 (w5.alloc (ca (ei z12) 42)):=(Zy);have tD:=zZ.ag (bB.ai zZ.size);refine CX 4 (λK d=> ?_);go_simp;refine(p cs V _ (xP _ tD) (HK _ _ _ _ vU bB)).ai ?_;rintro o w6 ⟨yE,H,rfl,zA⟩;have yU:=zA.small.1;have vA:=zA.small.2;try go_simp
     refine d.out _ _ (vQ _ _ V q (λb hb=>(yM b hb).1) yE) (λxW=> ?_);clear d K;try simp only[Act.put,Dh]
     have yR:bs k.1.size k w6:=tD.ag (yE.A tD.size (λb hb=>(yM b hb).1));have nB:w6.1[w5.1.size]?=an (ca (ei z12) 42 (0,0)):=(yE.block w5.1.size Yu (λh=>Dl (yM _ h).2)).ag (show(w5.alloc (ca (ei z12) 42)).1[w5.1.size]?=_ from heap_alloc_new _ _);refine CX 6 (λK d=> ?_);rw[if_pos Yp];refine wp_store_mid 42 _ _ rfl w5.1.size 0 (ei H) rfl rfl F7 (by rw[A0,yU];kernel_rfl) (all_oneCell_toArray vA) ?_;refine d.out _ _ (vZ _ _ _ xW zZ.size (AD _ _ _ _)) (λsE=> ?_);clear d K;try simp only[Act.put]
     refine wpAnyH_done Yr ?_ _;go_wp2_with fail;go_meet;exact⟨w5.1.size,H,rfl,xK.o w6 w5.1.size H zZ.size yR nB zA⟩
    go_simp;refine d.out _ _ (xQ _ _ hS (Zy)) (λxU=> ?_);clear d K;try simp only[Act.put,Dh]
    have bB:bs k.1.size k (k.alloc (ca (ei z12) 42)).drew:=(Zy).drew;refine CX 2 (λK d=> ?_);go_simp;refine(g _ (xP _ bB)).ai ?_;rintro o w5 ⟨cs,V,rfl,xF,tE,vU⟩;try go_simp
    refine d.out _ _ (xQ _ _ xU xF) (λq=> ?_);clear d K;try simp only[Act.put,Dh]
    have zZ:bs k.1.size k w5:=bB.ag (xF.ai bB.size);have yM:∀b∈V,k.1.size<b/\b<w5.1.size:=λb hb=>by have:=tE b hb;simp at this;omega
    refine CX 4 (λK d=> ?_);go_simp;refine(p cs V w5 (xP _ zZ) vU).ai ?_;rintro o w6 ⟨yE,H,rfl,zA⟩;have yU:=zA.small.1;have vA:=zA.small.2;try go_simp
    refine d.out _ _ (vQ _ _ V q (λb hb=>Dl (yM b hb)) yE) (λxW=> ?_);clear d K;try simp only[Act.put,Dh]
    have yR:bs k.1.size k w6:=zZ.ag (yE.A zZ.size (λb hb=>Dl (yM b hb)));have nB:w6.1[k.1.size]?=an (ca (ei z12) 42 (0,0)):=(yE.block k.1.size (by have:=xF.size;simp at this;omega) (λh=>Dl (yM _ h).1)).ag ((xF.block k.1.size Yu).ag (show(k.alloc (ca (ei z12) 42)).1[k.1.size]?=_ from heap_alloc_new _ _));refine CX 6 (λK d=> ?_);rw[if_pos Yp];refine wp_store_mid 42 _ _ rfl k.1.size 0 (ei H) rfl rfl F7 (by rw[A0,yU];kernel_rfl) (all_oneCell_toArray vA) ?_;refine d.out _ _ (vZ _ _ _ xW (Zx) (AD _ _ _ _)) (λsE=> ?_);clear d K;try simp only[Act.put]
    refine wpAnyH_done Yr ?_ _;go_wp2_with fail;go_meet;exact⟨k.1.size,H,rfl,xK.o w6 k.1.size H (Zx) yR nB zA⟩
   case rest=>
   revert wc;intro w7 hcut;obtain⟨y,H,rfl,hcut⟩:=hcut;have⟨xC,rC,q,sJ⟩:=hcut.o;have z7:=q.size;have yP:Hid (Zz i w7):=c.ag (q.ai c.size);replace N:=Yw (Aa.same N (q.block _ vR));have xS:Hid (i.1.size<y/\y<w7.1.size):=⟨Dl vR.o,xC.jw sJ.small.1⟩;clear hcut q p g HK sC c z7 rC;rcases sJ with⟨c,p,q,xI,rfl⟩|⟨r,O,Q,M,G,I,J,hy,rfl,hz⟩
   .have rB:(c==0)=bq:=(by have:=GR.code xI;simp;omega);have zJ:Hid (Gj v e (Fv c v p q)):=eb ⟨zS,dp ⟨c,p,q,eb ⟨vP,dp xI⟩,rfl⟩⟩;obtain⟨⟨g,_⟩,⟨rK,_⟩,⟨rL,_⟩,⟨⟨k0,g0⟩,⟨rI,sY⟩,rJ,sZ⟩,Y9,f⟩:=xC 0 _ rfl,xC 10 _ rfl,xC 11 _ rfl,OK N B.1,Ag (ev (ev (ev w7 (Zd (i.1.size) 0) (Zg c)) (Zd (i.1.size) 20) (C4 p)) (Zd (i.1.size) 21) (C4 q));have yB:Aa Y9 i.1.size (dL (Fv c v p q) vs):=(by rw[f];exact Aax N B.1 c p q);have zB:bs i.1.size i Y9:=(by rw[f];exact((yP.setCell (Zx) _).setCell (Zx) _).setCell (Zx) _);have rE:y≠i.1.size:=Dl xS.o;have zX:=Yw f;have zK:=Yw yB;clear f yB xC xI yC yD C HF zV zC yJ yK HL;go_upto_region 12 with fail;rw[<-zX.o];clear zX k0 g0 rI sY rJ sZ g rK rL rB rE;have⟨D,hD⟩:∃t:Zj,t=dL (Fv c v p q) vs:=⟨_,rfl⟩;have xD:Hid (Aa Y9 i.1.size D):=by rw[hD];exact zK.o
    have F:=Yw (Kz (E Y9 zB).2.2 (yI Y9 zB) zJ B hD);clear hD zB yI E B;go_wp2_with (first
     |refine wpList_load_mid rfl 166 _ rfl i.1.size 0 rfl D _ xD.range underlying166 rfl G5 ?_
     |refine wpList_store_mid rfl 166 _ _ rfl (w.1.size+2) 0 (ei D) rfl rfl F.2.1 J3 (all_oneCell_toArray F.1.2) ?_)
    exact bodyPost_ret (AM results144 _ _ (w.1.size+2) D _ rfl (Aa.range F.2.2.1) underlying166 rfl G5) rfl F.2.2.2
   have xG:=Yw xC;have Hy:Hid (e.yes v r):=hy;have xT:Hid (Z r O Q M G I J w7):=hz;obtain⟨g,_⟩:=xC 0 _ rfl;clear xC hy hz
   as_aux_lemma=>
   go_upto_region 13 with fail;clear g;go_cut [51] (λg wx=>g=ef (e.ft v r)/\Hid (Zz w7 wx))
   case first=>
    by_cases hk1:e.kd=1
    .have tK:(e.kd==1)=bg:=(by simp[hk1]);have vY:Hid (e.ft v r=bx (v.lim<Ey v.wd r.B)):=(by show e.ft v r=_;simp[Ed.ft,hk1]);replace C:=Yw (C hk1 r O Q M G I J w7.drew Hy (yD _ _ _ _ _ _ _ _ xT _ Ae.drew));clear hk1;refine wp_region_held_drew (S:=λX=>Aa X (w.1.size+1) (Xz e.kd e.s e.nm e.R e.tx ra (eh e.rf) rc)/\Aa X w.1.size [Zg v.wd,Zg v.lim,C2 sa v.ss sc,C2 ta v.C tc,b0,b1,b2,b3,b4,b5,b6,c0,c1,c2,c3,c4,c5]/\Aa X y [Ze,Zg v.wd,Zg r.F,Zg r.G,Zg r.E,C2 O r.B Q,C2 M r.ps G,C2 I r.ls J,C4 r.sm,Zg r.le,Zc,Zc]) Yr (show _/\_/\_ from⟨(E w7 yP).2.1,(E w7 yP).1,xG⟩) (λhS=> ?_);refine Cb 0 (Yy (w.1.size+1)) ?_;try simp only[Act.put,Dh]
     refine Gd 1 (Zg e.kd) rfl I2 ?_;try simp only[Act.put,Dh]
     refine Cb 2 (ef bg) ?_;try simp only[Act.put,Dh]
     refine Cb 3 (ef bg) ?_;try simp only[Act.put,Dh]
     refine Cb 4 (Yx y 1) ?_;try simp only[Act.put,Dh]
     refine Gd 5 (ct (C8 v.wd r.F r.G r.E O r.B Q M r.ps G I r.ls J)) rfl (by exact yieldsIf_load_mid Yp 30 _ rfl (y) 1 rfl (C7 v.wd r.F r.G r.E O r.B Q M r.ps G I r.ls J) _ (λX h=>Aa.dq [Ze] (C7 v.wd r.F r.G r.E O r.B Q M r.ps G I r.ls J) [C4 r.sm,Zg r.le,Zc,Zc] h.2.2) underlying30 rfl Yr) ?_;try simp only[Act.put,Dh]
     refine Cb 7 (Yx w.1.size 1) ?_;try simp only[Act.put,Dh]
     refine Gd 8 (Zg v.lim) rfl (by exact Or.inl ⟨Yp,λX hX=>by have h1:=(hX.2.1 1 _ rfl).1;go_simp⟩) ?_;try simp only[Act.put,Dh]
     refine CX 6 (λK d=> ?_);rw[if_pos Yp];go_simp;refine C.Aj ?_;rintro o w8 ⟨rfl,vV⟩;have rA:bs w7.1.size w7 w8:=(Below.refl w7.1.size w7).drew.ag vV;try go_simp
     refine d.out _ _ ⟨Aa.A hS.1 vV,Aa.A hS.2.1 vV,Aa.A hS.2.2 vV⟩ (λxU=> ?_);clear d K;try simp only[Act.put,Dh]
     refine Cb 9 (ef (bx (v.lim<Ey v.wd r.B))) ?_;try simp only[Act.put,Dh]
     refine Cb 10 (ef (bx (v.lim<Ey v.wd r.B))) ?_;try simp only[Act.put,Dh]
     refine wpAnyH_done Yr ?_ _;go_wp2_with fail;go_meet;exact⟨by rw[vY.o],rA⟩
    have tK:(e.kd==1)=bq:=D2 hk1;have vY:Hid (e.ft v r=bq):=(by show e.ft v r=_;simp[Ed.ft,hk1]);clear hk1;refine wp_region_held_drew (S:=λX=>Aa X (w.1.size+1) (Xz e.kd e.s e.nm e.R e.tx ra (eh e.rf) rc)/\Aa X w.1.size [Zg v.wd,Zg v.lim,C2 sa v.ss sc,C2 ta v.C tc,b0,b1,b2,b3,b4,b5,b6,c0,c1,c2,c3,c4,c5]/\Aa X y [Ze,Zg v.wd,Zg r.F,Zg r.G,Zg r.E,C2 O r.B Q,C2 M r.ps G,C2 I r.ls J,C4 r.sm,Zg r.le,Zc,Zc]) Yr (show _/\_/\_ from⟨(E w7 yP).2.1,(E w7 yP).1,xG⟩) (λhS=> ?_);refine Cb 0 (Yy (w.1.size+1)) ?_;try simp only[Act.put,Dh]
    refine Gd 1 (Zg e.kd) rfl I2 ?_;try simp only[Act.put,Dh]
    refine Cb 2 (ef bq) ?_;try simp only[Act.put,Dh]
    refine Cb 3 (ef bq) ?_;try simp only[Act.put,Dh]
    refine Gc 4 ?_;try simp only[Act.put,Dh]
    refine Gc 5 ?_;try simp only[Act.put,Dh]
    refine Gc 6 ?_;try simp only[Act.put,Dh]
    refine Gc 7 ?_;try simp only[Act.put,Dh]
    refine Gc 8 ?_;try simp only[Act.put,Dh]
    refine Gc 9 ?_;try simp only[Act.put,Dh]
    refine Cb 10 (ef bq) ?_;try simp only[Act.put,Dh]
    refine wpAnyH_done Yr ?_ _;go_wp2_with fail;go_meet;exact⟨by rw[vY.o],(Below.refl w7.1.size w7).drew⟩
   case rest=>
   revert wc;intro d hcut;obtain⟨rfl,g⟩:=hcut;have rM:=g.size;have K:Hid (Zz i d):=yP.ag (g.ai yP.size);replace N:=Yw (Aa.same N (g.block _ (Dl xS.o)));replace xG:Hid (Aa d y [Ze,Zg v.wd,Zg r.F,Zg r.G,Zg r.E,C2 O r.B Q,C2 M r.ps G,C2 I r.ls J,C4 r.sm,Zg r.le,Zc,Zc]):=Aa.A xG g
   replace xT:Hid (Z r O Q M G I J d):=yD _ _ _ _ _ _ _ _ xT _ g;have xM:Hid (i.1.size<y/\y<d.1.size):=⟨xS.1,Dl xS.o⟩;clear g C yP xS rM;cases hbg:e.ft v r with
   |true=>
    have zJ:Hid (Gj v e (Fv 8 v ⟨#[]⟩ ⟨#[]⟩)):=eb ⟨zS,dp ⟨8,⟨#[]⟩,⟨#[]⟩,eb ⟨vP,eb ⟨rfl,rfl,r,Hy,dp ⟨hbg,rfl⟩⟩⟩,rfl⟩⟩;have A:=K.o;clear hbg yC yD HF zV zC yJ yK HL;obtain⟨⟨⟨k0,g0⟩,_⟩,Y9,f⟩:=OK N B.1,D7 d (i.1.size) 0 (Zg 8);have yB:Aa Y9 i.1.size (dL (Fv 8 v ⟨#[]⟩ ⟨#[]⟩) vs):=(by rw[f];exact Nh N 8);have zB:bs i.1.size i Y9:=Ng;have zX:=Yw f;have zK:=Yw yB;clear f yB A;go_upto_region 15 with fail;rw[<-zX.o];clear zX k0 g0;have⟨D,hD⟩:∃t:Zj,t=dL (Fv 8 v ⟨#[]⟩ ⟨#[]⟩) vs:=⟨_,rfl⟩;have xD:Hid (Aa Y9 i.1.size D):=by rw[hD];exact zK.o
    have F:=Yw (Kz (E Y9 zB).2.2 (yI Y9 zB) zJ B hD);clear hD zB yI E B;go_wp2_with (first
     |refine wpList_load_mid rfl 166 _ rfl i.1.size 0 rfl D _ xD.range underlying166 rfl G5 ?_
     |refine wpList_store_mid rfl 166 _ _ rfl (w.1.size+2) 0 (ei D) rfl rfl F.2.1 J3 (all_oneCell_toArray F.1.2) ?_)
    exact bodyPost_ret (AM results144 _ _ (w.1.size+2) D _ rfl (Aa.range F.2.2.1) underlying166 rfl G5) rfl F.2.2.2
   |false=>
   have g:Hid (¬e.jo v r):=(by show ¬(e.ft v r=bg);rw[hbg];simp);clear hbg;obtain⟨⟨sL,_⟩,⟨sM,_⟩,⟨sI,sK⟩,sF⟩:=(E d K).1 2 _ rfl,(E d K).1 3 _ rfl,HL.o,yK.2;by_cases hfull:eh v.ss+eh v.C=4000
   .have zJ:Hid (Gj v e (Fv 9 v ⟨#[]⟩ ⟨#[]⟩)):=eb ⟨zS,dp ⟨9,⟨#[]⟩,⟨#[]⟩,eb ⟨vP,eb ⟨rfl,rfl,r,Hy,eb ⟨g,hfull,rfl⟩⟩⟩,rfl⟩⟩;have C:¬((eh v.ss:Int)+(eh v.C:Int)<4000):=Yv;have A:=K.o;clear yC yD HF zV zC yJ yK HL;go_upto_region 17 with fail;clear sL sM C hfull sI sK sF;obtain⟨⟨⟨k0,g0⟩,_⟩,Y9,f⟩:=OK N B.1,D7 d (i.1.size) 0 (Zg 9);have yB:Aa Y9 i.1.size (dL (Fv 9 v ⟨#[]⟩ ⟨#[]⟩) vs):=(by rw[f];exact Nh N 9);have zB:bs i.1.size i Y9:=Ng;have zX:=Yw f;have zK:=Yw yB;clear f yB A;go_upto_region 18 with fail;rw[<-zX.o];clear zX k0 g0;have⟨D,hD⟩:∃t:Zj,t=dL (Fv 9 v ⟨#[]⟩ ⟨#[]⟩) vs:=⟨_,rfl⟩;have xD:Hid (Aa Y9 i.1.size D):=by rw[hD];exact zK.o
    have F:=Yw (Kz (E Y9 zB).2.2 (yI Y9 zB) zJ B hD);clear hD zB yI E B;go_wp2_with (first
     |refine wpList_load_mid rfl 166 _ rfl i.1.size 0 rfl D _ xD.range underlying166 rfl G5 ?_
     |refine wpList_store_mid rfl 166 _ _ rfl (w.1.size+2) 0 (ei D) rfl rfl F.2.1 J3 (all_oneCell_toArray F.1.2) ?_)
    exact bodyPost_ret (AM results144 _ _ (w.1.size+2) D _ rfl (Aa.range F.2.2.1) underlying166 rfl G5) rfl F.2.2.2
   have C:(eh v.ss:Int)+(eh v.C:Int)<4000:=Yv;have tQ:Hid (XB v e r):=⟨vP,Hy,g,hfull⟩;clear g hfull
   as_aux_lemma=>
   go_upto_region 19 with fail;clear sL sM C sF sI sK;clear B N yI;go_wp2_with (refine wpList_load_mid rfl 34 _ rfl w.1.size 0 rfl [Zg v.wd,Zg v.lim,C2 sa v.ss sc,C2 ta v.C tc,b0,b1,b2,b3,b4,b5,b6,c0,c1,c2,c3,c4,c5] _ (E d K).1.range underlying34 rfl Yr ?_);refine(yC d (E d K).2.2.2).ai ?_;rintro o f ⟨sb,s,ub,zF,T,P,L,qb,n,U,m,rs,rfl,N,xB⟩;have⟨C,hC⟩:=Ag (Bd v (C6 sb v.ss s) (C6 ub v.C zF) T P L (C6 qb v.H n) (C6 U v.ms m));have vT:eh C=17/\∀u∈C,u.oneCell'=bg:=(by have⟨a,h,_⟩:=N.je;rw[hC];exact⟨rfl,by rw[h];simp[Bd,oneCell']⟩);rw[<-hC];obtain⟨sO,zE,xN⟩:=xB.size,Ag ((f.alloc (ca Xo 34)).setCells f.1.size 0 (ei C).toList);have hb:=boxed (X:=f) (cs:=C) (z:=Xn) (T:=34) (by rw[vT.1];rfl);have sD:zE=(f.alloc (ca (ei Xn) 34)).setCells f.1.size 0 C:=xN;rw[<-sD]at hb;obtain⟨tM,tB,vN⟩:=hb;have B:Hid ((f.alloc (ca Xo 34)).there f.1.size 0 (ei C).size/\eh C=17/\∀x∈C,x.oneCell'=bg):=⟨by rw[show (ei C).size=17 from by rw[A0];exact vT.1];exact(Aa.new f Xn 34).there,vT⟩;have yH:Hid (Aa zE f.1.size [Zg v.wd,Zg v.lim,C6 sb v.ss s,C6 ub v.C zF,Zg v.J,Zg v.F,Zg v.G,Zg v.E,T,P,L,Zg v.I,C6 qb v.H n,C6 U v.ms m,Zg v.N,Zg v.M,Zg v.ro]):=(by show Aa zE f.1.size [Zg v.wd,Zg v.lim,C6 sb v.ss s,C6 ub v.C zF,Zg v.J,Zg v.F,Zg v.G,Zg v.E,T,P,L,Zg v.I,C6 qb v.H n,C6 U v.ms m,Zg v.N,Zg v.M,Zg v.ro];rw[hC]at tM;exact tM);have A:=xB.ag (tB.ai xB.size);have vF:Hid (Zz i zE):=K.ag (A.ai K.size);have zI:Hid (AF zE d.1.size (C6 sb v.ss s) (C6 ub v.C zF) T P L (C6 qb v.H n) (C6 U v.ms m) rs v/\∀g∈Df (C6 sb v.ss s) (C6 ub v.C zF) T P L (C6 qb v.H n) (C6 U v.ms m) rs,g<f.1.size):=⟨N.A tB,N.db⟩;have zY:Hid (w.1.size+3<=i.1.size/\i.1.size<y/\y<d.1.size/\d.1.size<=f.1.size/\zE.1.size=f.1.size+1):=⟨Dl xR.o,xM.1,xM.2,sO,vN⟩;have zO:Hid (Zz d zE):=A;have x:=Yw xN;clear xN sD tM tB vN sO hC vT N xB A yC xM xR;go_upto_region 20 with(refine wpList_store_mid rfl 34 _ _ rfl f.1.size 0 (ei C) rfl rfl B.1 (by rw[A0,B.2.1];kernel_rfl) (all_oneCell_toArray B.2.2) ?_);rw[<-x.o];clear x B
   as_aux_lemma=>
   have⟨et,A⟩:=Ag (e.cj v.wd);rw[<-A]at HF;have⟨yF,vD⟩:=Ag (v.C++[et]);have⟨N,vE⟩:=Ag (eh yF);have tX:Hid (yF=v.C++[e.cj v.wd]/\N=eh yF):=⟨by rw[vD,A],vE⟩;have tW:Hid (yF=v.C++[et]/\N=eh yF):=⟨vD,vE⟩;clear A vD vE;simp only[Act.put];go_cut [] (λwx=>∃(A:Zk) (B:Nat),Hid (Aa wx f.1.size [Zg v.wd,Zg v.lim,C6 sb v.ss s,C3 A N B,Zg v.J,Zg v.F,Zg v.G,Zg v.E,T,P,L,Zg v.I,C6 qb v.H n,C6 U v.ms m,Zg v.N,Zg v.M,Zg v.ro]/\Zz d wx/\zE.1.size<=wx.1.size/\Ak wx d.1.size (C6 sb v.ss s) v.ss/\Ak wx d.1.size (C3 A N B) yF/\Ak wx d.1.size (C6 qb v.H n) v.H/\Ak wx d.1.size (C6 U v.ms m) v.ms/\∀g,Al (C3 A N B)=an g->g≠f.1.size))
   case first=>
    have vX:Hid (∀X,Zz zE X->∃(A:Zk) (B:Nat) (Y:Zh),(Builtin.append_ #[23,23] 23 #[C6 ub v.C zF,Yz X.1.size 1 1]).run prog (X.alloc (ca #[C4 et] 9))=.ok (C3 A N B) Y/\(ek Y (Zd (f.1.size) 3)=an (C6 ub v.C zF)/\Y.frozen? ⟨f.1.size,3,ba⟩=bq)/\Hid (Aa (ev Y (Zd (f.1.size) 3) (C3 A N B)) f.1.size [Zg v.wd,Zg v.lim,C6 sb v.ss s,C3 A N B,Zg v.J,Zg v.F,Zg v.G,Zg v.E,T,P,L,Zg v.I,C6 qb v.H n,C6 U v.ms m,Zg v.N,Zg v.M,Zg v.ro]/\Zz d (ev Y (Zd (f.1.size) 3) (C3 A N B))/\zE.1.size<=(ev Y (Zd (f.1.size) 3) (C3 A N B)).1.size/\Ak (ev Y (Zd (f.1.size) 3) (C3 A N B)) d.1.size (C6 sb v.ss s) v.ss/\Ak (ev Y (Zd (f.1.size) 3) (C3 A N B)) d.1.size (C3 A N B) yF/\Ak (ev Y (Zd (f.1.size) 3) (C3 A N B)) d.1.size (C6 qb v.H n) v.H/\Ak (ev Y (Zd (f.1.size) 3) (C3 A N B)) d.1.size (C6 U v.ms m) v.ms/\∀g,Al (C3 A N B)=an g->g≠f.1.size)):=λX hX=>by
     obtain⟨rQ,hz,⟨vD,vE⟩,hA⟩:=hX.size,zY.o,tW.o,zI.1.A hX;have bA:bs X.1.size X (X.alloc (ca #[C4 et] 9)):=(Zy);obtain⟨V',Y,hr,hO,x,hk⟩:=KK (hA.u.A bA) ⟨X.1.size,0,ba⟩ 1 et N9 (Dl HL.2) Yt 23;rw[<-vD]at hO;obtain⟨A,B,rfl,_⟩:=hO.row;rw[<-vE]at hr hO hk;have rO:=hA.u.bh (g:=ub) rfl;have rP:ub<f.1.size:=zI.2 ub (by unfold Df;simp[Al]);have tY:Tn [ub] X Y:=((Tn.of (V:=[]) bA).ai Yu).ag (Tn.grown x Yu);have tZ:Tn [f.1.size] Y (ev Y (Zd (f.1.size) 3) (C3 A N B)):=Tn.set _ _ _ _ Yu;have xo:=Aa.A yH hX;have xY:=Aa.same xo (tY.block _ xo.lt Yt);have xX:∀g,Al (C3 A N B)=an g->g≠f.1.size:=λg yS=>by
      rcases hk with h|h
      .rw[h]at yS;have:ub=g:=A8 yS;omega
      rw[h]at yS;have:_=g:=A8 yS;simp at this;omega
     have tH:=hA.ap;have xO:∀{R:D4} {l:Zl},Ak X d.1.size R l->(∀g,Al R=an g->g∈Df (C6 sb v.ss s) (C6 ub v.C zF) T P L (C6 qb v.H n) (C6 U v.ms m) rs)->Al R≠an ub->Ak (ev Y (Zd (f.1.size) 3) (C3 A N B)) d.1.size R l:=λh1 h2 h3=>(h1.S tY (λg yS yT=>h3 (by simp at yT;rw[yS,yT]))).S tZ (λg yS yT=>by have:=zI.2 g (h2 g yS);simp at yT;omega);have bY:bs d.1.size d Y:=(zO.ag (hX.ai zO.size)).ag (tY.A Yv Yt);exact⟨A,B,Y,hr,xY 3 _ rfl,xY.set 3 _,bY.ag (tZ.A bY.size Yt),by have:=tY.size;simp;omega,xO hA.s (λg h=>by unfold Df;rw[h];simp) (tH.1 ub rfl),hO.S tZ (λg h=>by have:=xX g h;simp;omega),xO hA.q (λg h=>by unfold Df;rw[h];simp) (tH.2 ub rfl).1,xO hA.m (λg h=>by unfold Df;rw[h];simp) (tH.2 ub rfl).2,xX⟩
    have⟨X,xe,_,bw⟩:=E zE vF;have HC:=Yw (HF zE.drew (bw.ag (Ae.drew.ai bw.size)));have d0:=(X 0 _ rfl).1;obtain⟨e0,e1,e2,e3,e4,e5⟩:=Aa.c6 xe 0 1 2 3 4 5;have rN:=(yH 3 _ rfl).1;clear X xe
    go_region_law (first
     |(go_simp;go_at_call 43;refine HC.Aj ?_;rintro _ wf ⟨rfl,X⟩;have bf:bs zE.1.size zE wf:=BO X;have zf:=bf.size;have⟨A,B,Yf,hrun,⟨y3,g3⟩,hfin⟩:=vX wf bf;have m1:=(Aa.A yH bf 3 _ rfl).1;have a1:ek (wf.alloc (ca #[C4 et] 9)) (Zd (f.1.size) 3)=an (C6 ub v.C zF):=(Aa.A (Aa.A yH bf) (Zy) 3 _ rfl).1;clear X;go_wp2_with fail)
     |(refine Bu Yp (.tmp 70) (.tmp 75) 23 23 Yp Yp Yp hrun ?_))
    all_goals
     go_wp2_with fail;go_meet;exact⟨A,B,hfin⟩
   case rest=>
   revert wc;intro zH hcut;obtain⟨A,B,hcut⟩:=hcut;have⟨sN,vS,z20,vL,vM,vK,X,xX⟩:=hcut.o;have vI:=Yw sN;have zP:=Yw (Za vL (Za vM (Za vK X)));have yQ:Hid ((∀g,Al (C6 sb v.ss s)=an g->g≠f.1.size)/\(∀g,Al (C3 A N B)=an g->g≠f.1.size)/\(∀g,Al (C6 qb v.H n)=an g->g≠f.1.size)/\(∀g,Al (C6 U v.ms m)=an g->g≠f.1.size)):=⟨λg h=>by have:=zI.2 g (by unfold Df;rw[h];simp);omega,xX,λg h=>by have:=zI.2 g (by unfold Df;rw[h];simp);omega,λg h=>by have:=zI.2 g (by unfold Df;rw[h];simp);omega⟩;replace zY:Hid (w.1.size+3<=i.1.size/\i.1.size<y/\d.1.size<=zH.1.size/\y<d.1.size/\d.1.size<=f.1.size/\f.1.size<zH.1.size):=(by have:=zY.o;exact⟨Yv,Yv,Yv,Yv,Yv,Yv⟩);have yX:Hid (Aa zH y [Ze,Zg v.wd,Zg r.F,Zg r.G,Zg r.E,C2 O r.B Q,C2 M r.ps G,C2 I r.ls J,C4 r.sm,Zg r.le,Zc,Zc]):=Aa.A xG vS;have vJ:Hid (Z r O Q M G I J zH):=yD _ _ _ _ _ _ _ _ xT _ vS;have xJ:Hid (Zz i zH):=K.ag (vS.ai K.size);clear hcut sN vS z20 vL vM vK X xX tW HF zI yH vF zO K xG xT yD
   as_aux_lemma=>
   go_wp2_with (refine wpList_load_mid rfl 30 _ rfl y 1 rfl (C7 v.wd r.F r.G r.E O r.B Q M r.ps G I r.ls J) _ (Aa.dq [Ze] (C7 v.wd r.F r.G r.E O r.B Q M r.ps G I r.ls J) [C4 r.sm,Zg r.le,Zc,Zc] yX) underlying30 rfl Yr ?_);refine(zV r O Q M G I J zH Hy vJ).ai ?_;rintro o vW ⟨T2,P2,L2,yW,rfl,zU,K⟩;obtain⟨za,zc,rfl⟩:=Au zU.ak;obtain⟨ya,yc,rfl⟩:=Au zU.pins;obtain⟨ka,kc,rfl⟩:=Au zU.ax;have sP:=K.size;have vX:Hid (∀g,Al (C3 A N B)=an g->g∉BP (C2 za r.B zc) (C2 ya r.ps yc) (C2 ka r.ls kc) yW):=λg x yT=>by have h1:=(zP.2.1.bh x).2;have h2:=zU.lo g yT;omega
   obtain⟨hz,X,xA⟩:=zY.o,Ag (vW.setCells f.1.size 4 (C7 v.wd r.F r.G r.E za r.B zc ya r.ps yc ka r.ls kc));have yO:Tn [f.1.size] vW X:=(by rw[xA];exact AD _ _ _ _);have tN:=Aa.A vI K;have zT:Hid (Aa X f.1.size [Zg v.wd,Zg v.lim,C6 sb v.ss s,C3 A N B,Zg v.wd,Zg r.F,Zg r.G,Zg r.E,C2 za r.B zc,C2 ya r.ps yc,C2 ka r.ls kc,Zg v.I,C6 qb v.H n,C6 U v.ms m,Zg v.N,Zg v.M,Zg v.ro]):=by
    show Aa X f.1.size [Zg v.wd,Zg v.lim,C6 sb v.ss s,C3 A N B,Zg v.wd,Zg r.F,Zg r.G,Zg r.E,C2 za r.B zc,C2 ya r.ps yc,C2 ka r.ls kc,Zg v.I,C6 qb v.H n,C6 U v.ms m,Zg v.N,Zg v.M,Zg v.ro];rw[xA];exact Aa.dy (C7 v.wd r.F r.G r.E za r.B zc ya r.ps yc ka r.ls kc) [Zg v.wd,Zg v.lim,C6 sb v.ss s,C3 A N B] [Zg v.J,Zg v.F,Zg v.G,Zg v.E,T,P,L] (Xu v.I (an ⟨qb,0,ba⟩) (eh v.H) n (an ⟨U,0,ba⟩) (eh v.ms) m v.N v.M v.ro) vW tN rfl
   have xL:Hid (vW.there f.1.size 4 7/\((C8 v.wd r.F r.G r.E za r.B zc ya r.ps yc ka r.ls kc):Array Value).all (·.oneCell')=bg):=⟨Aa.cw [Zg v.wd,Zg v.lim,C6 sb v.ss s,C3 A N B] [Zg v.J,Zg v.F,Zg v.G,Zg v.E,T,P,L] (Xu v.I (an ⟨qb,0,ba⟩) (eh v.H) n (an ⟨U,0,ba⟩) (eh v.ms) m v.N v.M v.ro) tN,Yr⟩;have yZ:Hid (Be X zH.1.size (C2 za r.B zc) (C2 ya r.ps yc) (C2 ka r.ls kc) yW r.B r.ps r.ls):=zU.S yO Yt;have zG:Hid (Ak X d.1.size (C6 sb v.ss s) v.ss/\Ak X d.1.size (C3 A N B) yF/\Ak X d.1.size (C6 qb v.H n) v.H/\Ak X d.1.size (C6 U v.ms m) v.ms):=by
    refine⟨(zP.1.A K).S yO (λg x=> ?_),(zP.2.1.A K).S yO (λg x=> ?_),(zP.2.2.1.A K).S yO (λg x=> ?_),(zP.2.2.2.A K).S yO (λg x=> ?_)⟩
    .have:=yQ.1 g x;simp;omega
    .have:=yQ.2.1 g x;simp;omega
    .have:=yQ.2.2.1 g x;simp;omega
    have:=yQ.2.2.2 g x;simp;omega
   have tC:=xJ.ag (K.ai xJ.size);have yG:Hid (Zz i X):=tC.ag (yO.A tC.size Yt);have yY:=Yw (Aa.same (Aa.A yX K) (yO.block _ (Aa.A yX K).lt Yt));have sX:Hid (zH.1.size<=X.1.size):=Zm sP yO.size;have vH:=Yw xA;clear xA yO tN K zU tC sP hz vI zP yX xJ vJ zV;go_upto_region 22 with(refine wpList_store_mid rfl 30 _ _ rfl f.1.size 4 (C8 v.wd r.F r.G r.E za r.B zc ya r.ps yc ka r.ls kc) rfl rfl xL.1 Yr xL.2 ?_);rw[<-vH.o];clear vH xL
   as_aux_lemma=>
   obtain⟨⟨e0,_⟩,⟨e1,_⟩,⟨u8,_⟩,hl,K⟩:=(E X yG).2.1 0 _ rfl,(E X yG).2.1 1 _ rfl,yY 8 _ rfl,Ag (e.held r);have xH:Hid (hl=e.held r):=K;clear K;go_upto_if 87 with fail;go_cut [8,87] (λK _ wx=>K=C4 hl/\wx=X)
   case first=>
    by_cases hk1:e.kd=1
    .have tK:(e.kd==1)=bg:=(by simp[hk1]);have tJ:Hid (r.sm=hl):=(by show r.sm=hl;rw[xH.o];simp[Ed.held,hk1]);clear hk1;go_wp2;go_meet;exact⟨by rw[tJ.o],rfl⟩
    have tK:(e.kd==1)=bq:=D2 hk1;have tJ:Hid (e.s=hl):=(by show e.s=hl;rw[xH.o];simp[Ed.held,hk1]);clear hk1;go_wp2;go_meet;exact⟨by rw[tJ.o],rfl⟩
   case rest=>
   obtain⟨rfl,K⟩:=hcut;rw[K];clear K wc e0 e1 u8;have⟨qq,vC⟩:=Ag (shQ v.I r.B v.H v.ms hl);have tV:Hid (qq=shQ v.I r.B v.H v.ms (e.held r)):=(by show qq=_;rw[vC,xH.o]);go_upto_if 91 with fail;go_cut [91] (λ_ wx=>∃(qa:Zk) (qn qc:Nat) (ma:Zk) (mc:Nat),Hid (qn=eh qq/\Aa wx f.1.size [Zg v.wd,Zg v.lim,C6 sb v.ss s,C3 A N B,Zg v.wd,Zg r.F,Zg r.G,Zg r.E,C2 za r.B zc,C2 ya r.ps yc,C2 ka r.ls kc,Zg v.I,C3 qa qn qc,C2 ma v.ms mc,Zg v.N,Zg v.M,Zg v.ro]/\Tn [f.1.size] X wx/\Ak wx d.1.size (C3 qa qn qc) qq/\Ak wx d.1.size (C2 ma v.ms mc) v.ms))
   case first=>
    by_cases he:hl=⟨#[]⟩
    .have tU:Hid (qq=v.H):=(by show qq=v.H;rw[tV.o];exact(yJ r Hy).2 (by rw[<-xH.o,he]));have rD:(!hl.toList.isEmpty)=bq:=(by rw[he];simp);rw[rD];clear he vC;go_wp2;go_meet;exact⟨_,_,_,_,_,by rw[tU.o],zT,Tn.of Ae,by rw[tU.o];exact zG.2.2.1,zG.2.2.2⟩
    have rF:=Qh he;have tR:(!hl.toList.isEmpty)=bg:=by rw[rF];rfl
    rw[tR];replace zC:=Yw (zC r X (C2 za r.B zc) (C2 ya r.ps yc) (C2 ka r.ls kc) yW d.1.size qb n U m Hy (yZ.ai zY.2.2.1) zG.2.2.1 zG.2.2.2);rw[<-xH.o,<-vC]at zC;clear he vC;go_wp2_with (first
     |refine wpList_load_mid rfl 30 _ rfl f.1.size 4 rfl (C7 v.wd r.F r.G r.E za r.B zc ya r.ps yc ka r.ls kc) _ (Aa.dq [Zg v.wd,Zg v.lim,C6 sb v.ss s,C3 A N B] (C7 v.wd r.F r.G r.E za r.B zc ya r.ps yc ka r.ls kc) (Xu v.I (an ⟨qb,0,ba⟩) (eh v.H) n (an ⟨U,0,ba⟩) (eh v.ms) m v.N v.M v.ro) zT) underlying30 rfl Yr ?_
     |refine wpList_load_mid rfl 32 _ rfl f.1.size 11 rfl (Xu v.I (an ⟨qb,0,ba⟩) (eh v.H) n (an ⟨U,0,ba⟩) (eh v.ms) m v.N v.M v.ro) _ (Aa.dq [Zg v.wd,Zg v.lim,C6 sb v.ss s,C3 A N B,Zg v.wd,Zg r.F,Zg r.G,Zg r.E,C2 za r.B zc,C2 ya r.ps yc,C2 ka r.ls kc] (Xu v.I (an ⟨qb,0,ba⟩) (eh v.H) n (an ⟨U,0,ba⟩) (eh v.ms) m v.N v.M v.ro) [] zT) underlying32 rfl Yr ?_)
    refine zC.Aj ?_;rintro o tL ⟨K,Q3,M3,rfl,zN,zM⟩;obtain⟨qa,qc,rfl,_⟩:=zN.row;obtain⟨ma,mc,rfl,_⟩:=zM.row;obtain⟨hz,rH,yA,tO⟩:=zY.o,sX.o,AD f.1.size (Xu v.I qa (eh qq) qc ma (eh v.ms) mc v.N v.M v.ro) 11 tL,Aa.A zT K;have vG:Hid (tL.there f.1.size 11 6/\((Xy v.I qa (eh qq) qc ma (eh v.ms) mc v.N v.M v.ro):Array Value).all (·.oneCell')=bg):=⟨Aa.cw [Zg v.wd,Zg v.lim,C6 sb v.ss s,C3 A N B,Zg v.wd,Zg r.F,Zg r.G,Zg r.E,C2 za r.B zc,C2 ya r.ps yc,C2 ka r.ls kc] (Xu v.I (an ⟨qb,0,ba⟩) (eh v.H) n (an ⟨U,0,ba⟩) (eh v.ms) m v.N v.M v.ro) [] tO,Yr⟩;have sR:=Yw (Zn (Aa.dy (Xu v.I qa (eh qq) qc ma (eh v.ms) mc v.N v.M v.ro) [Zg v.wd,Zg v.lim,C6 sb v.ss s,C3 A N B,Zg v.wd,Zg r.F,Zg r.G,Zg r.E,C2 za r.B zc,C2 ya r.ps yc,C2 ka r.ls kc] (Xu v.I (an ⟨qb,0,ba⟩) (eh v.H) n (an ⟨U,0,ba⟩) (eh v.ms) m v.N v.M v.ro) [] tL tO rfl) (Zn (((Tn.of (V:=[]) K).ai Yu).ag yA) (Zn ((zN.S yA (λg x=>by have:=(zN.bh x).1;simp;omega)).ai (base':=d.1.size) Yv) ((zM.S yA (λg x=>by have:=(zM.bh x).1;simp;omega)).ai (base':=d.1.size) Yv))));clear yA tO K zN zM zT yZ zG yQ zC hz rH;go_wp2_with (refine wpList_store_mid rfl 32 _ _ rfl f.1.size 11 (Xy v.I qa (eh qq) qc ma (eh v.ms) mc v.N v.M v.ro) rfl rfl vG.1 Yr vG.2 ?_);go_meet;exact⟨_,_,_,_,_,rfl,sR⟩
   case rest=>
   revert wc;intro yL hcut;obtain⟨qa,qn,qc,ma,mc,hcut⟩:=hcut;have⟨sH,xo,yA,zN,zM⟩:=hcut.o;have sW:=Yw xo;have K:Hid (Be yL d.1.size (C2 za r.B zc) (C2 ya r.ps yc) (C2 ka r.ls kc) yW r.B r.ps r.ls/\Ak yL d.1.size (C6 sb v.ss s) v.ss/\Ak yL d.1.size (C3 A N B) yF/\Ak yL d.1.size (C3 qa qn qc) qq/\Ak yL d.1.size (C2 ma v.ms mc) v.ms):=⟨(yZ.S yA (by have:=zY.o;simp;omega)).ai zY.2.2.1,zG.1.S yA (λg x=>by have:=yQ.1 g x;simp;omega),zG.2.1.S yA (λg x=>by have:=yQ.2.1 g x;simp;omega),zN,zM⟩;have sT:Hid (qn=eh qq):=sH;have zB:bs i.1.size i yL:=yG.ag (yA.A yG.size (by have:=zY.o;simp;omega));have tS:=Yw (Aa.same yY (yA.block _ yY.lt (by have:=zY.o;simp;omega)));clear hcut sH xo yA zN zM vC zT yZ yY yG zG yQ zC yJ xH;have⟨vs,yN⟩:∃t:Zj,t=[Zg v.wd,Zg v.lim,C6 sb v.ss s,C3 A N B,Zg v.wd,Zg r.F,Zg r.G,Zg r.E,C2 za r.B zc,C2 ya r.ps yc,C2 ka r.ls kc,Zg v.I,C3 qa qn qc,C2 ma v.ms mc,Zg v.N,Zg v.M,Zg v.ro]:=⟨_,rfl⟩;have sB:Hid (Aa yL f.1.size vs/\eh vs=17):=(by rw[yN];exact⟨sW,rfl⟩);have yV:eh vs=17/\∀u∈vs,u.oneCell'=bg:=(by rw[yN];exact⟨rfl,by simp[oneCell']⟩);have⟨D,hD⟩:∃t:Zj,t=dL (dyes v e r) vs:=⟨_,rfl⟩;have vO:Hid (prog.built 166 [(1,ct (ei vs)),(2,C4 r.sm),(3,Zg r.le)]=an (ei D)):=(by rw[hD];exact US yV.1 _ _);have F:Hid _:=Kz (E yL zB).2.2 (λV j j u=>by
    have hz:=zY.o;have sG:∀b∈V,b<d.1.size:=λb hb=>Dl (j b hb);have j:∀g,d.1.size<=g->g∉V:=λg x yT=>Dl (sG g yT);rw[yN];exact Ade yK.1 (K.2.1.S u (λg x=>j g (K.2.1.bh x).1)) (K.2.2.1.S u (λg x=>j g (K.2.2.1.bh x).1)) tX.1 tX.2 (K.1.S u sG) (K.2.2.2.1.S u (λg x=>j g (K.2.2.2.1.bh x).1)) tV sT (K.2.2.2.2.S u (λg x=>j g (K.2.2.2.2.bh x).1)) vX) (eb ⟨zS,eb ⟨r,tQ,rfl⟩⟩) yV hD
   obtain⟨u8,_⟩:=tS 8 _ rfl;obtain⟨b,_⟩:=tS 9 _ rfl;clear hD yN yV zB E;go_wp2_with (first
    |refine wpList_load_mid rfl 34 _ rfl f.1.size 0 rfl vs _ sB.1.range underlying34 rfl (by rw[sB.2];kernel_rfl) ?_
    |refine Hb rfl 166 _ rfl [(1,ct (ei vs)),(2,C4 r.sm),(3,Zg r.le)] Yr (ei D) vO ?_
    |refine wpList_store_mid rfl 166 _ _ rfl (w.1.size+2) 0 (ei D) rfl rfl F.2.1 J3 (all_oneCell_toArray F.1.2) ?_)
   exact bodyPost_ret (AM results144 _ _ (w.1.size+2) D _ rfl (Aa.range F.2.2.1) underlying166 rfl G5) rfl F.2.2.2
structure RX (wd births:Int) (ks:List Kd) (ps:List Pd) (ls:List Ld):Prop where
 b1:∀k∈ks,1<=k.born/\k.born<=births
 un:∀x∈ks,∀y∈ks,x.born=y.born->x=y
 rs:∀k∈ks,∀r∈k.D,(r.size:Int)=wd
 ie:∀p∈ps,(p.sum.size:Int)=wd
 iu:∀l∈ls,(l.sum.size:Int)=wd
theorem JC{b:Int}{a:C9}(h:Fi b a)(c:AA a s):(s.size:Int)=b:=by obtain⟨u,d,e⟩:=c;rw[<-e];exact h.sz u d
theorem RX.step{o A j a:Int}{u:C9}{z:Db}{w:Da}{F:Int}{C:Zi}{D:Int}{d:Zi}{c:Zl}(h:RX o a u z w)(t:Gn o A j a u z w)(i:EI o A j a u z w F s C D d c r):RX o r.E r.B r.ps r.ls:=by
 have m:∀(x:Ld),(x.sum.size:Int)=o->∀l∈w++[x],(l.sum.size:Int)=o:=λx n l g=>by
  rcases Bw.1 g with g|g
  .exact h.iu l g
  rw[mem_singleton.1 g];exact n
 rcases i with⟨rfl,q,g,J,G,H,i,rfl⟩|⟨_,q,_,rfl⟩|⟨_,_,rfl⟩|⟨_,q,_,_,rfl⟩|⟨_,_,rfl⟩|⟨_,_,rfl⟩|⟨_,_,_,rfl⟩
 .rcases i with⟨_,_,_,_,rfl,rfl⟩|⟨_,_,_,rfl,rfl⟩
  .exact⟨h.b1,h.un,h.rs,h.ie,m _ (FM _ _ _ t.w1)⟩
  have v:∀k∈DP u ⟨Bm d c o,a+1,d,c⟩,k=⟨Bm d c o,a+1,d,c⟩\/k∈u:=λk f=>Cf.1 ((NW u _).mem_iff.1 f);have I:=t.ay;refine⟨λk f=> ?_,λx n y i e=> ?_,λk f r b=> ?_,h.ie,m _ (FM _ _ _ t.w1)⟩
  .rcases v k f with rfl|f
   .exact⟨by show 1<=a+1;omega,Int.le_refl _⟩
   have:=h.b1 k f;exact⟨this.1,by show _<=a+1;omega⟩
  .rcases v x n with rfl|n<;>rcases v y i with rfl|i
   .rfl
   .have:=(h.b1 y i).2;have E:a+1=y.born:=e;omega
   .have:=(h.b1 x n).2;have E:x.born=a+1:=e;omega
   exact h.un x n y i e
  rcases v k f with rfl|f
  .exact JC t.bk (q r b)
  exact h.rs k f r b
 .refine⟨h.b1,h.un,h.rs,λp B=> ?_,h.iu⟩;have b:p∈Bn z C s:=B;unfold Bn at b;rcases Bw.1 b with b|b
  .rcases Bw.1 b with b|b
   .exact h.ie p (B6.1 b).1
   rw[mem_singleton.1 b];exact JC t.bk q
  exact h.ie p (B6.1 b).1
 .exact⟨h.b1,h.un,h.rs,λp B=>h.ie p (B6.1 B).1,h.iu⟩
 .exact⟨h.b1,h.un,h.rs,h.ie,m _ (JC t.bk q)⟩
 .exact⟨h.b1,h.un,h.rs,h.ie,λl g=>h.iu l (B6.1 g).1⟩
 .exact⟨h.b1,h.un,h.rs,h.ie,λl g=>h.iu l (B6.1 g).1⟩
 exact⟨λk f=>h.b1 k (B6.1 f).1,λx n y i e=>h.un x (B6.1 n).1 y (B6.1 i).1 e,λk f=>h.rs k (B6.1 f).1,h.ie,h.iu⟩
theorem Cp.rx{a:Int}:∀{xs:Zl} {r r':Rs},Cp a r xs r'->r.ok a->RX a r.E r.B r.ps r.ls->RX a r'.E r'.B r'.ps r'.ls
 |[],r,r',h,_,hx=>by obtain rfl:r'=r:=h;exact hx
 |x::xs,r,r',h,hr,hx=>by obtain⟨d,b,c⟩:=h;exact Cp.rx c (b.ok hr) (hx.step hr b.2)
theorem Qm(a:Int)(s:Zi):(II a s).size<=5000:=by
 unfold II;by_cases h:Cn 7 s ⟨#[]⟩ 0 ⟨#[]⟩ [] a=bg
 .exact Ed.dv (e:=⟨7,s,⟨#[]⟩,0,⟨#[]⟩,[]⟩) h
 unfold Cv;rw[if_neg h];exact Aq _
