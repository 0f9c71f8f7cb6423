import Derived.Test.YtfmeclmjdpbacaaGreatDoorX08
import Derived.Test.YtfmeclmjdpbacaaGreatDoorX10
import Derived.Test.YtfmeclmjdpbacaaGreatDoorX07
import Derived.Test.YtfmeclmjdpbacaaGreatDoorX09
set_option maxRecDepth 100000
set_option maxHeartbeats 16000000
open Option renaming some->ai,none->an
open Bool renaming true->ay,false->ba
open Go.RowKit renaming Below->bg
open Decidable renaming decide->bq
open Go.Obj renaming cells->bs
open Go.Value renaming slice->bx,agg->ca
open Or renaming inl->cr,inr->ct
open List renaming length->ed
open Go.World renaming cell?->eh,frozen?->ei,ownsRow->ej,grownBy->ek,setCell->el
namespace Go.Proofs.YtfmeclmjdpbacaaGreatDoor
open ChangeShapes WideShapes ChangeAt RowKit _root_.Go.Proofs.Tryz List World Value
variable{w:Zh}{b k l m n p q c d base B r:Nat}{g i o a e x y wd K F u v H N t I J E:Int}{j f ms R G z qs:Zl}{s:Zi}{h U:C6}{T C:C5}{P L Q M D:Value}{V:List Nat}
theorem c15{g i j k l m n o p q a c d e f:Dg}(h:Aa w b [g,i,j,k,l,m,n,o,p,q,a,c,d,e,f]):(eh w (Zd b 0)=ai g/\ei w ⟨b,0,an⟩=ba)/\(eh w (Zd b 1)=ai i/\ei w ⟨b,1,an⟩=ba)/\(eh w (Zd b 2)=ai j/\ei w ⟨b,2,an⟩=ba)/\(eh w (Zd b 3)=ai k/\ei w ⟨b,3,an⟩=ba)/\(eh w (Zd b 4)=ai l/\ei w ⟨b,4,an⟩=ba)/\(eh w (Zd b 5)=ai m/\ei w ⟨b,5,an⟩=ba)/\(eh w (Zd b 6)=ai n/\ei w ⟨b,6,an⟩=ba)/\(eh w (Zd b 7)=ai o/\ei w ⟨b,7,an⟩=ba)/\(eh w (Zd b 8)=ai p/\ei w ⟨b,8,an⟩=ba)/\(eh w (Zd b 9)=ai q/\ei w ⟨b,9,an⟩=ba)/\(eh w (Zd b 10)=ai a/\ei w ⟨b,10,an⟩=ba)/\(eh w (Zd b 11)=ai c/\ei w ⟨b,11,an⟩=ba)/\(eh w (Zd b 12)=ai d/\ei w ⟨b,12,an⟩=ba)/\(eh w (Zd b 13)=ai e/\ei w ⟨b,13,an⟩=ba)/\(eh w (Zd b 14)=ai f/\ei w ⟨b,14,an⟩=ba):=
 ⟨h 0 _ rfl,h 1 _ rfl,h 2 _ rfl,h 3 _ rfl,h 4 _ rfl,h 5 _ rfl,h 6 _ rfl,h 7 _ rfl,h 8 _ rfl,h 9 _ rfl,h 10 _ rfl,h 11 _ rfl,h 12 _ rfl,h 13 _ rfl,h 14 _ rfl⟩
def fresh(ms rs:Zl):Zl:=rs.filter (fun r=> !(ms.any (fun x=>decide (x=r))))
def KJ(ks:List Kd)(s:Zi)(qs ms qs' ms':Zl):Prop:=
 ((¬As ks s\/s∈ms)/\qs'=qs/\ms'=ms)\/∃k∈ks,k.sum=s/\s∉ms/\ms'=ms++[s]/\qs'=qs++fresh (ms++[s]) k.C
theorem Tw{ms a:Zl}{k:Nat}{x:Zi}(c:a[k]?=ai x):(x∈ms->fresh ms (a.take (k+1))=fresh ms (a.take k))/\(x∉ms->fresh ms (a.take (k+1))=fresh ms (a.take k)++[x]):=by
 obtain⟨h,rfl⟩:=Zw c;unfold fresh;rw[Zu h,filter_append];refine⟨λb=> ?_,λb=> ?_⟩
 .have:(ms.any (λx=>decide (x=a[k])))=ay:=C9 b;simp[this]
 have:(ms.any (λx=>decide (x=a[k])))=ba:=by simp;exact λx c e=>b (e▸c)
 simp[this]
def Hj(ks:List Kd)(at_:Int)(u:Kd):Prop:=u∈ks/\u.born<at_/\∀y∈ks,y.born<at_->y.born<=u.born
structure UR where
 B:List Kd
 I:Int
 L:Int
 K:Int
 ro:Int
 F:Zl
 ms:Zl
 ds:Zl
inductive UTo (ks:List Kd) (ps:List Pd) (ls:List Ld) (births ph top at_ ro:Int) (qs ms:Zl):UR->Prop
 |begin (h:ph=0):UTo ks ps ls births ph top at_ ro qs ms ⟨ks,1,births,births+1,ro,DK ps ls,ms,[]⟩
 |mark (h:ph≠0) (s:Zi) (q0 qs' ms':Zl) (hq:qs=s::q0) (hm:KJ ks s q0 ms qs' ms'):UTo ks ps ls births ph top at_ ro qs ms ⟨ks,ph,top,at_,ro,qs',ms',[]⟩
 |rest (h:ph≠0) (hq:qs=[]) (hn:∀y∈ks,¬y.born<at_):UTo ks ps ls births ph top at_ ro qs ms ⟨ks,0,0,0,ro+1,[],[],[]⟩
 |ak (h:ph≠0) (hq:qs=[]) (u:Kd) (hu:Hj ks at_ u) (hk:u.sum∈ms\/Dw ps ls ks u.sum):UTo ks ps ls births ph top at_ ro qs ms ⟨ks,2,top,u.born,ro,[],ms,[]⟩
 |drop (h:ph≠0) (hq:qs=[]) (u:Kd) (hu:Hj ks at_ u) (hm:u.sum∉ms) (hk:¬Dw ps ls ks u.sum):UTo ks ps ls births ph top at_ ro qs ms ⟨Ch ks u.sum,2,top,u.born,ro,[],ms,[u.sum]⟩
structure UOk (wd births:Int) (ks:List Kd) (ps:List Pd) (ls:List Ld) (ph ro:Int) (qs ms:Zl):Prop where
 ok:Dv wd ks
 born:∀k∈ks,1<=k.born
 C:∀k∈ks,ed k.C<=30/\∀r∈k.C,(r.size:Int)=wd
 pl:ed ps<=100
 ll:ed ls<=200
 gz:∀p∈ps,(p.sum.size:Int)=wd
 ie:∀l∈ls,(l.sum.size:Int)=wd
 b0:0<=births
 b1:births<=1000000000
 jr:ph=0\/ph=1\/ph=2
 r0:0<=ro
 r1:ro<=1000000000
 jo:∀x∈qs,(x.size:Int)=wd
 iq:∀x∈ms,(x.size:Int)=wd
 ql:ed qs<=1048576
 ml:ed ms<=1048576
theorem UTo.sub{d c k:Int}{b:C5}{i:C7}{e:C6}{r:UR}(h:UTo b i e a g d c k j f r):r.B.Sublist b:=by
 cases h with
 |begin h=>exact List.Sublist.refl _
 |mark h s q0 q1 m1 hq hm=>exact List.Sublist.refl _
 |rest h hq hn=>exact List.Sublist.refl _
 |ak h hq u hu hk=>exact List.Sublist.refl _
 |drop h hq u hu hm hk=>exact filter_sublist
theorem KJ.dq{b:C5}{g h d i:Zl}(l:(b.map (·.sum)).Nodup)(m:KJ b s j g h d)(n:KJ b s j g i f):h=i/\d=f:=by
 rcases m with⟨a,rfl,rfl⟩|⟨k,c,e,o,rfl,rfl⟩<;>rcases n with⟨a',rfl,rfl⟩|⟨k',hk',e',hn',rfl,rfl⟩
 .exact gA
 .rcases a with a|a
  .exact absurd ⟨k',hk',e'⟩ a
  exact gA
 .rcases a' with a|a
  .exact absurd ⟨k,c,e⟩ a
  exact gA
 rw[ET l c hk' (e.ag e'.symm)];exact gA
theorem UTo.dq{c j:Int}{d:C5}{k:C7}{l i:Zl}{m n:UR}(q:∀x∈d,∀y∈d,x.born=y.born->x=y)(p:(d.map (·.sum)).Nodup)(b:UTo d k h c j g e o l i m)(a:UTo d k h c j g e o l i n):m=n:=by
 have f:∀{u v:Kd},Hj d e u->Hj d e v->u=v:=λ{u v} hu hv=>q _ hu.1 _ hv.1 (by have:=hu.2.2 v hv.1 hv.2.1;have:=hv.2.2 u hu.1 hu.2.1;omega);cases b with
 |begin b=>
  cases a with
  |begin a=>rfl
  |mark a s2 q02 qs12 ms12 hq2 hm2=>exact absurd b a
  |rest a hq2 hn2=>exact absurd b a
  |ak a hq2 u2 hu2 hk2=>exact absurd b a
  |drop a hq2 u2 hu2 hm2 hk2=>exact absurd b a
 |mark b s1 q01 qs11 ms11 hq1 hm1=>
  cases a with
  |begin a=>exact absurd a b
  |mark a s2 q02 qs12 ms12 hq2 hm2=>rw[hq1]at hq2;cases hq2;obtain⟨rfl,rfl⟩:=hm1.dq p hm2;rfl
  |rest a hq2 hn2=>rw[hq1]at hq2;cases hq2
  |ak a hq2 u2 hu2 hk2=>rw[hq1]at hq2;cases hq2
  |drop a hq2 u2 hu2 hm2 hk2=>rw[hq1]at hq2;cases hq2
 |rest b hq1 hn1=>
  cases a with
  |begin a=>exact absurd a b
  |mark a s2 q02 qs12 ms12 hq2 hm2=>rw[hq1]at hq2;cases hq2
  |rest a hq2 hn2=>rfl
  |ak a hq2 u2 hu2 hk2=>exact absurd hu2.2.1 (hn1 _ hu2.1)
  |drop a hq2 u2 hu2 hm2 hk2=>exact absurd hu2.2.1 (hn1 _ hu2.1)
 |ak b hq1 u1 hu1 hk1=>
  cases a with
  |begin a=>exact absurd a b
  |mark a s2 q02 qs12 ms12 hq2 hm2=>rw[hq1]at hq2;cases hq2
  |rest a hq2 hn2=>exact absurd hu1.2.1 (hn2 _ hu1.1)
  |ak a hq2 u2 hu2 hk2=>cases f hu1 hu2;rfl
  |drop a hq2 u2 hu2 hm2 hk2=>cases f hu1 hu2;exact(hk1.elim hm2 hk2).elim
 |drop b hq1 u1 hu1 hm1 hk1=>
  cases a with
  |begin a=>exact absurd a b
  |mark a s2 q02 qs12 ms12 hq2 hm2=>rw[hq1]at hq2;cases hq2
  |rest a hq2 hn2=>exact absurd hu1.2.1 (hn2 _ hu1.1)
  |ak a hq2 u2 hu2 hk2=>cases f hu1 hu2;exact(hk2.elim hm1 hk1).elim
  |drop a hq2 u2 hu2 hm2 hk2=>cases f hu1 hu2;rfl
theorem XJ{o:Zl}{x:Zi}:x∈BE o s↔x∈o\/x=s:=by
 unfold BE;split
 .rename_i h
  rw[any_eq_true]at h;obtain⟨y,a,e⟩:=h;simp at e;subst e;exact⟨cr,λh=>h.elim id (λe=>e▸a)⟩
 simp
theorem Qt{a o:Zl}{x:Zi}:x∈a.foldl BE o↔x∈o\/x∈a:=by
 induction a generalizing o with
 |nil=>simp
 |cons y ys ih=>
  rw[foldl_cons,ih,XJ];simp only[Bh];constructor
  .rintro((h|h)|h)
   .exact cr h
   .exact ct (cr h)
   exact ct (ct h)
  rintro(h|h|h)
  .exact cr (cr h)
  .exact cr (ct h)
  exact ct h
theorem XK{l:Zl}(h:l.Nodup):∀{u:Zl},(∀x∈l,x∈u)->ed l<=ed u:=by
 induction l with
 |nil=>intro u _;simp
 |cons x xs ih=>
  intro u d;have⟨j,i⟩:=nodup_cons.1 h;obtain⟨a,b,rfl⟩:=append_of_mem (d x Yu);have:=ih i (u:=a++b) (λy f=>by
   have c:=d y (by simp[f]);have g:y≠x:=λe=>j (by rw[<-e];exact f);simp only[A5,Bh]at c |-;rcases c with h|h|h
   .exact cr h
   .exact absurd h g
   exact ct h)
  simp only[length_cons,Am]at this |-;omega
section
attribute [local go_sem↓] Go.wp_at_zero Go.wp_at_succ
theorem BA.same{g:Zh}{f d:Int}{T:Dg}(h:BA w b i f e d T P L)(r:g.1[b]?=w.1[b]?):BA g b i f e d T P L:=by obtain⟨k,l,m,n,o,p,q,s⟩:=h;have c:=λj=>cell?_of_block (a:=⟨b,j,an⟩) r;refine⟨(c 0).ag k,(c 1).ag l,(c 2).ag m,(c 3).ag n,(c 4).ag o,(c 5).ag p,(c 6).ag q,?_⟩;exact gG
end
def Tx(ps:List Pd)(ls:List Ld):Zl:=ps.map (·.sum)++ls.map (·.sum)
section
attribute [local go_sem↓] Go.wp_at_zero Go.wp_at_succ
theorem Tz{b:C7}{a:C6}{x:Zi}:x∈DK b a↔x∈Tx b a:=by unfold DK Tx;rw[Qt,Qt,A5];simp
theorem MN{a:C7}{b:C6}(f:ed a<=100)(e:ed b<=200):ed (DK a b)<=300:=by unfold DK;have c:=Jc (b.map (·.sum)) ((a.map (·.sum)).foldl BE []);have d:=Jc (a.map (·.sum)) [];simp at c d;omega
end
structure Qu (ks:List Kd) (ps:List Pd) (ls:List Ld) (ro:Int) (qs ms:Zl) (r:UR):Prop where
 sub:r.B.Sublist ks
 rr:ro<=r.ro/\r.ro<=ro+1
 dl:ed r.ds+ed r.B<=ed ks
 d1:ed r.ds<=1
 nq:ed ps<=100->ed ls<=200->ed r.F<=ed qs+330
 T:ed r.ms<=ed ms+1
theorem Qu.begin{e:C5}{d:C7}{c:C6}{b:Int}{i:Zl}:Qu e d c b i f ⟨e,1,a,a+1,b,DK d c,f,[]⟩:=
 ⟨List.Sublist.refl _,⟨Int.le_refl _,by show b<=b+1;omega⟩,Yu,Yu,λh g=>by have:=MN h g;show ed (DK d c)<=_;omega,Yu⟩
theorem Qu.rest{b:C5}{e:C7}{c:C6}{d:Zl}:Qu b e c a f d ⟨b,0,0,0,a+1,[],[],[]⟩:=
 ⟨List.Sublist.refl _,⟨by show a<=a+1;omega,Int.le_refl _⟩,Yu,Yu,λ_ _=>Yu,Yu⟩
structure UWk (births:Int) (ks:List Kd) (ps:List Pd) (ls:List Ld) (ro:Int) (qs:Zl):Prop where
 len:ed ks<=600
 dz:∀k∈ks,ed k.C<=30
 pl:ed ps<=100
 ll:ed ls<=200
 b0:0<=births
 b1:births<=1000000000
 r0:0<=ro
 r1:ro<=1000000000
 ql:ed qs<=1048576
def UR.and(u r:UR):UR:=⟨r.B,r.I,r.L,r.K,r.ro,r.F,r.ms,u.ds++r.ds⟩
structure Vs (births:Int) (ks0:List Kd) (ps:List Pd) (ls:List Ld) (free:Nat) (u:UR):Prop where
 w:UWk births u.B ps ls u.ro u.F
 sub:u.B.Sublist ks0
 ql:ed u.F<=23200
 ml:ed u.ms<=600
 dl:ed u.ds+ed u.B<=600
 df:ed u.ds<=free
theorem Vs.step{d:C5}{f:C7}{e:C6}{free:Nat}{u r:UR}(h:Vs a d f e free u)(b:Qu u.B f e u.ro u.F u.ms r)(l:u.ro≠1000000000)(j:ed r.F<=23200)(i:ed r.ms<=600)(c:r.ds=[]\/ed u.ds<free):Vs a d f e free (u.and r):=by
 have hlen:=b.sub.length_le;have:=h.w.r0;have:=h.w.r1;have:=b.rr;have:=h.w.len;have:=b.dl;have:=h.dl;have:=b.d1;have:=h.df;refine⟨⟨by show ed r.B<=_;omega,λk g=>h.w.dz k (b.sub.subset g),h.w.pl,h.w.ll,h.w.b0,h.w.b1,by show 0<=r.ro;omega,by show r.ro<=_;omega,by show ed r.F<=_;omega⟩,b.sub.ag h.sub,j,i,?_,?_⟩
 .show ed (u.ds++r.ds)+ed r.B<=600;rw[Am];omega
 show ed (u.ds++r.ds)<=free;rw[Am];rcases c with c|c
 .rw[c,length_nil];omega
 omega
theorem Qu.some{c:C5}{ps:C7}{d:C6}{f:Int}{e:Zl}{r:UR}(h:Qu c ps d f e ms r)(b:r.ds≠[]):∃s,r.ds=[s]:=by
 have a:=h.d1
 match hds:r.ds with
 |[]=>exact absurd hds b
 |[s]=>exact⟨s,rfl⟩
 |_::_::_=>rw[hds]at a;simp at a
theorem r6{a c d e f g:Dg}(h:Aa w b [a,c,d,e,f,g]):(eh w (Zd b 0)=ai a/\ei w ⟨b,0,an⟩=ba)/\(eh w (Zd b 1)=ai c/\ei w ⟨b,1,an⟩=ba)/\(eh w (Zd b 2)=ai d/\ei w ⟨b,2,an⟩=ba)/\(eh w (Zd b 3)=ai e/\ei w ⟨b,3,an⟩=ba)/\(eh w (Zd b 4)=ai f/\ei w ⟨b,4,an⟩=ba)/\(eh w (Zd b 5)=ai g/\ei w ⟨b,5,an⟩=ba):=
 ⟨h 0 _ rfl,h 1 _ rfl,h 2 _ rfl,h 3 _ rfl,h 4 _ rfl,h 5 _ rfl⟩
def Ir(a:Zk)(n c:Nat):Prop:=n<=c/\(a=an->n=0/\c=0)
theorem Ah.cap{a:Zk}{ss:Zl}(h:Ah w base (Cx a n c) ss):Ir a (ed ss) c:=by
 rcases h with⟨e,rfl⟩|⟨g,d,b,e,_,_,h,_⟩
 .cases e;exact⟨Zx,λ_=>⟨rfl,rfl⟩⟩
 cases e;exact⟨h,λe=>by cases e⟩
def Lt(w:Zh)(a:Zk):Prop:=∀p,a=ai p->p.block<w.1.size
theorem Lt.mono{b:Zh}{a:Zk}(h:Lt w a)(c:w.1.size<=b.1.size):Lt b a:=λp e=>Zr (h p e) c
abbrev Lt.ah:=@Lt.mono
def Far(b:Nat)(x y:Zk)(n:Nat)(a:Zk):Prop:=∀p,a=ai p->p.block=b\/(∃q,x=ai q/\p.block=q.block)\/(∃q,y=ai q/\p.block=q.block)\/n<=p.block
theorem Far.new{g o:Nat}{x y:Zk}(h:n<=g):Far b x y n (ai ⟨g,o,an⟩):=λp e=>by cases e;exact ct (ct (ct h))
theorem Vt{W:Zh}{a:Zk}(g:Nat){b:Zl}(h:Ad W W.1.size a b)(B:a=an->ed b=0/\g=0)(F:ed b<=100000000)(n:TypeId):
 ∃x i d,(Builtin.append_ #[23,23] n #[Yz W.1.size 0 0,Cx a (ed b) g]).run prog (W.alloc (bs #[] 9))=.ok (Yz x (ed b) i) d/\ej d W.1.size 9 1 (Yz x (ed b) i) (ed b) (b.map string)/\Zz W d:=by
 have⟨p,o,r,t,v⟩:=info_parts CQ;have c:ej (W.alloc (bs #[] 9)) W.1.size 9 1 (Yz W.1.size 0 0) 0 (([]:Zl).map string):=ownsRow_lit (base:=W.1.size) (e:=9) (size:=1) W #[] 0 (Zx) Yo rfl;have l:bg W.1.size W (W.alloc (bs #[] 9)):=gB;cases a with
 |none=>obtain⟨y,rfl⟩:=B rfl;have z:=A9 y;subst z;exact⟨_,_,_,run_append_owned_none (P:=prog) (W.alloc (bs #[] 9)) W.1.size 23 n 9 p 1 underlying23 o _ 0 _ c,c,l⟩
 |some A=>
 obtain⟨G,d,E,m,q,D⟩:=run_append_own (P:=prog) (w:=W.alloc (bs #[] 9)) W.1.size 23 n 9 p Zc 1 16 underlying23 o r t v rfl Yq _ 0 _ c A (ed b) g (b.map string) Yu (λj u f=>by
  rw[getElem?_map]at f;cases hs:b[j]? with
  |none=>rw[hs]at f;cases f
  |some s=>
   rw[hs]at f;cases f;exact(h.A l).dg A rfl j s hs) (Acj b) Yo Yv Yu
 simp only[Ax,map_nil,nil_append]at m;obtain⟨x,i,rfl⟩:=VU m (λe=>by have:=D.1 e;cases this.1);have f:ek (W.alloc (bs #[] 9)) d (ai W.1.size):=by simpa [ownBlock]using q
 exact⟨x,i,d,E,m,l.grown f Yu (λk C=>by cases C;exact Zx)⟩
theorem LA(l f d m:Int){j h:Zk}(k i:Nat){a c:Zl}(I:Ad w w.1.size j a)(H:Ad w w.1.size h c)(Q:j=an->ed a=0/\k=0)(P:h=an->ed c=0/\i=0)(S:ed a<=100000000)(R:ed c<=100000000):
 D4 144 #[ca (Yb l j (ed a) k h (ed c) i f d m)] w λe n=>∃x p y q,e=C1 (ca (Yb l (ai ⟨x,0,an⟩) (ed a) p (ai ⟨y,0,an⟩) (ed c) q f d m))/\
  ej n w.1.size 9 1 (Yz x (ed a) p) (ed a) (a.map string)/\ej n w.1.size 9 1 (Yz y (ed c) q) (ed c) (c.map string)/\x≠y/\Zz w n:=by
 have⟨W,s⟩:=Ag (((w.alloc (bs (Yb l j (ed a) k h (ed c) i f d m) 32)).alloc (bs Xv 32)).alloc (bs (Yb l j (ed a) k h (ed c) i f d m) 32));have O:bg w.1.size w W:=gB;have X:w.1.size+3<=W.1.size:=gB;have F:Aa W (w.1.size+1+1) (Xu l j (ed a) k h (ed c) i f d m):=by rw[s];simpa using Aa.new ((w.alloc (bs (Yb l j (ed a) k h (ed c) i f d m) 32)).alloc (bs Xv 32)) (Xu l j (ed a) k h (ed c) i f d m) 32
 have J:Aa W (w.1.size+1) Xt:=by have G:=Aa.new (w.alloc (bs (Yb l j (ed a) k h (ed c) i f d m) 32)) Xt 32;rw[Aq]at G;rw[s];exact Aa.A G (Zy)
 have E:Aa W w.1.size (Xu l j (ed a) k h (ed c) i f d m):=by rw[s];exact Aa.A (Aa.A (Aa.new w _ _) (Zy)) (Zy)
 have⟨x,p,C,T,t,n⟩:=Vt k (I.U O) Q S 23;have rA:eh (W.alloc (bs #[] 9)) (Zd (w.1.size) 1)=ai (Cw j a k):=((Aa.A E (Zy)) 1 _ rfl).1;have⟨V,A⟩:=D2 C (w.1.size+1+1) 1 (C2 x a p);have zA:=n.size;have hT:Tn [w.1.size+1+1] C V:=by rw[A];exact Bi _ _ _ _
 have zC:=hT.size;have N:bg w.1.size w C:=gB;have r:bg w.1.size w V:=gC;have K:Aa V w.1.size (Xu l j (ed a) k h (ed c) i f d m):=Aa.same (Aa.A E n) (hT.block _ Yv Yt);have L:Aa V (w.1.size+1) Xt:=Aa.same (Aa.A J n) (hT.block _ Yv Yu);have M:Aa V (w.1.size+1+1) (Xu l (ai ⟨x,0,an⟩) (ed a) p h (ed c) i f d m):=by rw[A];exact(Aa.A F n).set 1 _
 have lx:=Ab t (g:=x) rfl;obtain⟨B,y,q,D,U,u,o⟩:=DJ t hT (λb o=>by simp at o;omega),Vt i (H.U r) P R 23;have rB:eh (V.alloc (bs #[] 9)) (Zd (w.1.size) 2)=ai (Cw h c i):=((Aa.A K (Zy)) 2 _ rfl).1;obtain⟨ly,⟨⟨b,g0⟩,⟨e,g1⟩,⟨k2,g2⟩,⟨k3,g3⟩,⟨k4,g4⟩,⟨k5,g5⟩⟩,⟨n0,m0⟩,⟨n1,m1⟩,⟨n2,m2⟩,⟨n3,m3⟩,⟨n4,m4⟩,⟨n5,m5⟩⟩:=Ab u (g:=y) rfl,r6 (Aa.A L o),r6 (Aa.A M o);have⟨_,⟨p1,q1⟩,_⟩:=r6 (Aa.A F n);have zB:=o.size;have z:Hid (ej D (w.1.size+3) 9 1 (C2 x a p) (ed a) (a.map string)/\ej D (w.1.size+3) 9 1 (C2 y c q) (ed c) (c.map string)/\x≠y/\Zz w D):=⟨(Ai B o).ah X,u.ah Yv,Yv,r.ag (o.ah r.size)⟩;have Z:=Yw s;have Y:=Yw A;clear s A E J F K L M B t u n o hT r N I H;delta D4;go_in
 go_upto_region 2 with fail;rw[<-Z.o];go_upto_region 3 with(at_builtin;refine wpList_append_run rfl _ _ 23 23 rfl rfl rfl T ?_);rw[<-Y.o];go_wp2_with (first
  |(at_builtin;refine wpList_append_run rfl _ _ 23 23 rfl rfl rfl U ?_)
  |go_in)
 refine Co (ca (Yb l (ai ⟨x,0,an⟩) (ed a) p (ai ⟨y,0,an⟩) (ed c) q f d m)) (by simp[results,results144,go_sem,b,e,k2,k3,k4,k5]) ⟨x,p,y,q,rfl,?_,?_,z.2.2.1,?_⟩
 .refine ownsRow.ah ?_ (show w.1.size<=w.1.size+3 by omega)
  iterate 7 (refine ownsRow_setCell_below ?_ Yu _)
  exact z.1
 .refine ownsRow.ah ?_ (show w.1.size<=w.1.size+3 by omega)
  iterate 7 (refine ownsRow_setCell_below ?_ Yu _)
  exact z.2.1
 iterate 7 (refine Below.setCell ?_ Ym _)
 exact z.2.2.2
theorem BM.grown{g:Zh}{d c f:Int}(h:BM w b e Q M d c f)(a:ek w g (ai q))(o:b≠q):BM g b e Q M d c f:=by obtain⟨i,j,k,l,m,n,r⟩:=h;have p:=a.size;exact⟨a.cell i Yt,a.cell j Yt,a.cell k Yt,a.cell l Yt,a.cell m Yt,a.cell n Yt,Yv⟩
theorem LC(f d c i:Int)(g h k l:Nat){b a:Zl}(q:Ad w w.1.size (ai ⟨g,0,an⟩) b)(p:Ad w w.1.size (ai ⟨h,0,an⟩) a)(o:GM b a):
 D4 144 #[ca (Yb f (ai ⟨g,0,an⟩) (ed b) k (ai ⟨h,0,an⟩) (ed a) l d c i)] w λe j=>∃x m y n,e=C1 (ca (Yb f (ai ⟨x,0,an⟩) (ed b) m (ai ⟨y,0,an⟩) (ed a) n d c i))/\
  ej j w.1.size 9 1 (Yz x (ed b) m) (ed b) (b.map string)/\ej j w.1.size 9 1 (Yz y (ed a) n) (ed a) (a.map string)/\x≠y/\Zz w j:=
 LA f d c i k l q p (λe=>by cases e) (λe=>by cases e) (C8 o.q) (C8 o.m)
theorem Vu{a:Zk}(m:Nat){b:Zl}(s:Zi)(d:Ad w B a b)(A:ed b<=1048576):
 D4 227 #[Cx a (ed b) m,C0 s] w λe c=>∃r:Int,e=C1 (Zg r)/\(0<=r↔s∈b)/\c=w:=by
 delta D4;go_in;go_wp2
 go_loop [8] (λi=>∃k:Nat,k<=ed b/\i=Zg k/\Hid (∀j x,j<k->b[j]?=ai x->s≠x)) (λi=>ed b -(intOf i).toNat)
 case atStart=>exact⟨0,Aw _,rfl,λj x h=>Yv⟩
 obtain⟨k,z,rfl,c⟩:=hrel;by_cases hlt:k<ed b
 .obtain⟨t,q,o,v,g⟩:=d.at hlt;subst o;have f:Hid (b[k]?=ai b[k]):=Zv hlt;have u:=g k _ f;clear g d;generalize b[k]=x at *
  by_cases h:s=x
  .subst h;go_wp2;go_ret;exact⟨_,rfl,⟨λ_=>Zs f,λ_=>Yv⟩,rfl⟩
  have p:=BZ h;have n:Hid (∀j y,j<k+1->b[j]?=ai y->s≠y):=by
   intro j y d g;rcases B0 j k with l|l
   .exact c j y l g
   obtain rfl:j=k:=Yv;rw[f.o]at g;cases g;exact h
  clear h c f;go_wp2;exact⟨⟨k+1,Yv,Yn,n⟩,Ys⟩
 go_wp2;go_ret;refine⟨_,rfl,⟨λh=>Yv,λf=> ?_⟩,rfl⟩;have⟨j,d⟩:=A3 f;exact absurd rfl (c j s (C8 (Zw d).1) d)
open Classical in
theorem Qv{a:Zk}(d:Nat){b:Zl}(s:Zi)(c:Ad w B a b)(j:ed b<=1048576):
 D4 189 #[Cx a (ed b) d,C0 s] w λe f=>e=C1 (.bool (bq (s∈b)))/\f=w:=by
 delta D4;go_in;go_wp2_with fail;refine(Vu d s c j).ah ?_;rintro e k ⟨r,rfl,f,rfl⟩;by_cases h:0<=r
 .have i:bq ((0:Int)<=r)=ay:=C9 h;go_wp2;go_ret;exact⟨by rw[decide_eq_true (f.1 h)];rfl,rfl⟩
 have i:bq ((0:Int)<=r)=ba:=C9 h;have g:¬s∈b:=λe=>h (f.2 e);go_wp2;go_ret;exact⟨by rw[decide_eq_false g];rfl,rfl⟩
open Classical in
noncomputable def shQ (ph:Int) (ks:List Kd) (qs ms:Zl) (s:Zi):Zl:=if ¬ph=0/\As ks s/\¬s∈ms/\¬ed qs=23200 then qs++[s]else qs
theorem Nx{d:Int}{b:C5}{a c:Zl}(e:¬d=0)(f:As b s)(g:¬s∈c)(h:¬ed a=23200):shQ d b a c s=a++[s]:=if_pos ⟨e,f,g,h⟩
theorem FE{d:Int}{b:C5}{a c:Zl}(h:d=0\/¬As b s\/s∈c\/ed a=23200):shQ d b a c s=a:=if_neg (λ⟨h1,h2,h3,h4⟩=>by rcases h with h|h|h|h;exact h1 h;exact h h2;exact h3 h;exact h4 h)
def GD(wd:Int)(k:Kd):Int:=1+ed k.C *wd+k.Q.size
def CS(wd:Int)(ks:List Kd):Int:=(ks.map (GD wd)).sum
theorem JN{a:C5}{x:Kd}(b:a[k]?=ai x):CS wd (a.take (k+1))=CS wd (a.take k)+GD wd x:=by unfold CS;rw[Uw b,map_append,sum_append];simp
theorem LY{x:Kd}(h:AL x.Q x.C wd=ay):1<=GD wd x/\GD wd x<=2241/\0<=(ed x.C:Int) *wd/\(ed x.C:Int) *wd<=240:=by have h:=Bs h;have b:=h.lo;have a:=h.hi;have c:=h.C;have d:=h.Q;have e:0<=(ed x.C:Int) *wd:=Int.mul_nonneg Yv Yv;have f:(ed x.C:Int) *wd<=30 *8:=Int.mul_le_mul Yv a Yv Yv;unfold GD;omega
theorem LZ{a:C5}(h:∀(i:Nat) k,a[i]?=ai k->AL k.Q k.C wd=ay):∀k,k<=ed a->0<=CS wd (a.take k)/\CS wd (a.take k)<=2241 *k
 |0,_=>by simp[CS]
 |k+1,hk=>by have c:=LZ h k Yv;have b:a[k]?=ai (a[k]'(by omega)):=gA;have:=LY (h k _ b);rw[JN b];omega
theorem Ro{x:Kd}(h:AL x.Q x.C wd=ay):((AH x.Q x.C wd).size:Int)=GD wd x:=by
 have a:=Bs h;have b:=a.bz;have c:=a.lo;unfold AH;rw[if_pos h];have:(ByteArray.mk (Bu x.Q x.C).toArray).size=1+(bz x.C+x.Q.size):=by show(Bu x.Q x.C).toArray.size=_;simp only[Az,Bu,length_cons,Am,De,Array.length_toList];show _+x.Q.size+1=_;omega
 rw[this,b];unfold GD;have e:((ed x.C *wd.toNat:Nat):Int)=(ed x.C:Int) *wd:=by rw[Int.natCast_mul,Int.toNat_of_nonneg Yv]
 omega
theorem TC(wd g f c:Int){a:Zk}(o:Nat)(P L:Dg){d:C5}(h:BH w w.1.size a d)(H:ed d<=600)(j:∀(i:Nat) k,d[i]?=ai k->AL k.Q k.C wd=ay):
 D4 101 #[ca #[Zg wd,Zg g,Zg f,Zg c,Cx a (ed d) o,P,L]] w λe l=>e=C1 (Zg (CS wd d))/\Zz w l:=by
 have p:bg w.1.size w (w.alloc (bs #[Zg wd,Zg g,Zg f,Zg c,Cw a d o,P,L] 30)):=gB;delta D4;go_in;go_wp2;go_loopw [3,4] (λn i wr=>∃(k m:Nat),k<=ed d/\i=Zg k/\n=Zg (CS wd (d.take k))/\wr=(w.alloc (bs #[Zg wd,Zg g,Zg f,Zg c,Cw a d o,P,L] 30)).drewN m) (λ_ i _=>ed d -(intOf i).toNat)
 case atStart=>exact⟨0,0,Aw _,rfl,by simp[CS],rfl⟩
 obtain⟨k,m,y,rfl,rfl,rfl⟩:=hrel;by_cases hlt:k<ed d
 .obtain⟨b,z,u,G,v⟩:=h.at hlt;subst u;have l:Hid (d[k]?=ai d[k]):=gH;obtain⟨⟨C,D,E,K,M,F,_⟩,q,r,HS⟩:=v k _ l,LY (j k _ l),LZ j k y,Yw (JN (wd:=wd) l);obtain⟨s,t,A,B⟩:=q;obtain⟨I,J⟩:=r;generalize d[k]=x at *
  unfold GD at s t;generalize hRK:CS wd (d.take k)=R at *
  go_wp2;go_quiet (fail);go_wp2;refine⟨⟨k+1,_,Yv,Yn,?_,rfl⟩,Ys⟩;rw[HS.o];unfold GD;congr 1;omega
 go_wp2;go_ret;exact⟨Pm (by rw[Zt Yv]),Cg p _⟩
open Classical in
theorem Vv(wd h d c:Int){a:Zk}(p l:Zk)(o s q:Nat){f:C5}(t:C7)(r:C6)(g:BH w w.1.size a f)(hn:ed f<=600)(G:∀(i:Nat) k,f[i]?=ai k->AL k.Q k.C wd=ay)(y:∀k∈f,k.Q.size<=maxLen)(v:∀k∈f,ed k.C<=1048576):
 D4 138 #[ca (Yg wd h d c a (ed f) o p (ed t) s l (ed r) q)] w λe j=>e=C1 (Zg (CS wd f))/\Zz w j:=by
 have m:bg w.1.size w (w.alloc (bs (C4 wd h d c a f o p t s l r q) 30)):=Zy;obtain⟨I,u,T,H⟩:=BA.new w wd h d c (Cw a f o) (Cw p t s) (Cw l r q) 30,Yw G,Yw g,Yw (Zn y v);delta D4;go_in;have j:=Yw I;obtain⟨z,A,B,C,D,E,F,S⟩:=I;clear g G y v;go_wp2;go_loopw [3,9] (λn i wr=>∃k:Nat,k<=ed f/\i=Zg k/\n=Zg (CS wd (f.take k))/\Zz w wr/\Hid (BA wr w.1.size wd h d c (Cw a f o) (Cw p t s) (Cw l r q))) (λ_ i _=>ed f -(intOf i).toNat)
 case atStart=>exact⟨0,Aw _,rfl,by simp[CS],m,j⟩
 clear z A B C D E F S j m;obtain⟨k,V,rfl,rfl,g,J⟩:=hrel;have⟨z,A,B,C,D,E,F,S⟩:=J.o;by_cases hlt:k<ed f
 .obtain⟨b,W,ha,hb,L⟩:=(BH.A T g).at hlt;subst ha;have y:Hid (f[k]?=ai f[k]):=Zv hlt;obtain⟨Y,Z,n,P,Q,c3,M⟩:=L k _ y;have j:=getElem_mem hlt;obtain⟨N,O,X,⟨b1,b2,_,_⟩,⟨r1,r2⟩,U⟩:=H.1 _ j,H.2 _ j,Yw (Ro (u k _ y)),LY (u k _ y),LZ u k V,Yw (JN (wd:=wd) y);have zA:b<wr.1.size:=Yv;have hR:CS wd (f.take k)<=1344600:=Yv;generalize f[k]=x at *
  generalize GD wd x=RX at *
  generalize CS wd (f.take k)=R at *
  have v:bg wr.1.size wr (wr.alloc (Obj.cells #[C0 x.sum,int IntKind.i64 x.born,C0 x.Q,Cw P x.C Q] 50)):=Zy;obtain⟨K,m,G⟩:=Yw (Ki x.Q P Q x.C wd _ ((M.ah g.size).U v) O N),Yw (Zn g (Zn v J)),g.size;clear L M j r2 v g J N O;go_wp2_with fail;refine K.Ak ?_;rintro e v ⟨rfl,j⟩;have M:((AH x.Q x.C wd).size:Int)=RX:=X.o;have J:Hid (Zz w v):=(m.1.ag (m.2.1.ah G)).ag (j.ah Yt);have L:Hid (BA v w.1.size wd h d c (Cw (ai ⟨b,W,an⟩) f o) (Cw p t s) (Cw l r q)):=BA.A (BA.A m.2.2 m.2.1) j;clear j m K z A B C D E F Y Z n c3;go_wp2;refine⟨⟨k+1,Yv,Yn,?_,J,L⟩,Ys⟩;rw[U.o]
 clear z A B C D E F;go_wp2;go_ret;exact⟨Pm (by rw[Zt Yv]),g⟩
def GY(d:Nat)(ph:Int)(Q M:Value)(top at_ ro:Int)(mm:Nat)(D:Value):Zj:=[.pointer (ai ⟨d,0,an⟩),Zg ph,Q,M,Zg top,Zg at_,Zg ro,.map (ai mm),D]
theorem ZJ{d c:Int}(h:BM w b d Q M c a e):eh w (Zd b 0)=ai (Zg d)/\eh w (Zd b 1)=ai Q/\eh w (Zd b 2)=ai M/\eh w (Zd b 3)=ai (Zg c)/\eh w (Zd b 4)=ai (Zg a)/\eh w (Zd b 5)=ai (Zg e):=
 ⟨h.1,h.2.1,h.2.2.1,h.2.2.2.1,h.2.2.2.2.1,h.2.2.2.2.2.1⟩
def KK(w:Zh)(c:Nat):Prop:=∃cur fz,w.1[c]?=ai (bs cur 139 fz)
theorem KK.same{d:Zh}(h:KK w c)(e:d.1[c]?=w.1[c]?):KK d c:=by obtain⟨a,b,h⟩:=h;exact⟨a,b,e.ag h⟩
theorem KK.set(h:KK w c)(j:Nat)(v:Dg):KK (el w (Zd c j) v) c:=by obtain⟨a,b,h⟩:=h;refine⟨a.setIfInBounds j v,b,?_⟩;simp[setCell,Array.getElem?_modify,h]
theorem Qw{b:Int}{a:Zl}(d:∀x∈a,(x.size:Int)=b)(g:(s.size:Int)=b)(f:b<=8):keyL s∈a.map keyL↔s∈a:=by
 constructor
 .intro h;have⟨x,c,e⟩:=mem_map.1 h;have:=d x c;have:=key_inj e Yv Yv;exact this▸c
 exact λh=>mem_map.2 ⟨s,h,rfl⟩
theorem AW.S{a:Zh}{K:TypeId}{f:Lit->Option Value}(h:AW w K b n c f)(j:a.1[b]?=w.1[b]?):AW a K b n c f:=Ge
theorem Gg(d:Nat)(z t r A:Int)(Q M D:Dg){o:Nat}(f:Lit->Option Value)(m:Int){g:Zl}(s:Zi)(a:Aa w c (GY d z Q M t r A b D))(l:AW w 160 b n o f)(p:MK g f o)(i:∀x∈g,(x.size:Int)=m)(y:(s.size:Int)=m)(v:m<=8):
 D4 114 #[Yy c,C0 s] w λe h=>Au (s∈g) w h e:=by
 obtain⟨k,q,B,_,h⟩:=p.get (keyL s);have u:Hid (0<k↔s∈g):=h.ag (Qw i y v);have HS:Hid (∀X,Zz w X->eh X (Zd c 7)=ai (.map (ai b))/\(Instr.lookup 137 (.map (ai b)) (Ce s) ba).run prog X=.ok (Zg k) X):=λX j=>
  ⟨((a.A j) 7 _ rfl).1,by have:=(l.ak j l.lt).map.look keyed underlying137 (Hm X) (CW s);rw[q]at this;exact this⟩
 have j:bg w.1.size w w.drew:=Ae.drew;clear a l p q h i;delta D4;go_in;go_upto_region 1 with fail;go_region_held3 (λX=>eh X (Zd c 7)=ai (.map (ai b))/\(Instr.lookup 137 (.map (ai b)) (Ce s) ba).run prog X=.ok (Zg k) X)
  (first|with_reducible exact HS.o _ j|with_reducible exact HS.o _ a)
  (first|(go_at_call 132;refine(FP s w.drew).ah ?_;rintro e i ⟨rfl,h⟩;have a:bg w.1.size w i:=j.ag (h.ah j.size)))
 all_goals
  go_wp2;go_ret;exact⟨_,rfl,by rw[decide_eq_true_iff];exact u.o,a⟩
theorem c9{a c d e f g i j k:Dg}(h:Aa w b [a,c,d,e,f,g,i,j,k]):(eh w (Zd b 0)=ai a/\ei w ⟨b,0,an⟩=ba)/\(eh w (Zd b 1)=ai c/\ei w ⟨b,1,an⟩=ba)/\(eh w (Zd b 2)=ai d/\ei w ⟨b,2,an⟩=ba)/\(eh w (Zd b 3)=ai e/\ei w ⟨b,3,an⟩=ba)/\(eh w (Zd b 4)=ai f/\ei w ⟨b,4,an⟩=ba)/\(eh w (Zd b 5)=ai g/\ei w ⟨b,5,an⟩=ba)/\(eh w (Zd b 6)=ai i/\ei w ⟨b,6,an⟩=ba)/\(eh w (Zd b 7)=ai j/\ei w ⟨b,7,an⟩=ba)/\(eh w (Zd b 8)=ai k/\ei w ⟨b,8,an⟩=ba):=
 ⟨h 0 _ rfl,h 1 _ rfl,h 2 _ rfl,h 3 _ rfl,h 4 _ rfl,h 5 _ rfl,h 6 _ rfl,h 7 _ rfl,h 8 _ rfl⟩
theorem Qx(d:Nat)(P N L g:Int)(Q M D:Dg)(j:Nat)(b:Aa w c (GY d P Q M N L g j D))(U:0<=g)(O:g<=1000000000):
 D4 119 #[Yy c] w λe i=>e=C1 (.tuple #[])/\∃a,Aa i c (GY d 0 Zb Zb 0 0 (g+1) a D)/\Tn [c] w i/\w.1.size<=a/\∃h f,AW i 160 a 0 h f/\MK [] f h:=by
 obtain⟨S,W,i⟩:=b.lt,Ag (el (el (el (el (el (el w (Zd c 1) Ze) (Zd c 2) Zb) (Zd c 3) Zb) (Zd c 4) Ze) (Zd c 5) Ze) (Zd c 6) (Zg (g+1)));have G:Aa W c (GY d 0 Zb Zb 0 0 (g+1) j D):=by rw[i];exact(((((b.set 1 _).set 2 _).set 3 _).set 4 _).set 5 _).set 6 _
 have F:Tn [c] w W:=by rw[i];exact(((((Bi _ _ _ _).ag (Bi _ _ _ _)).ag (Bi _ _ _ _)).ag (Bi _ _ _ _)).ag (Bi _ _ _ _)).ag (Bi _ _ _ _)
 have⟨⟨u,l⟩,⟨v,m⟩,⟨x,n⟩,⟨y,o⟩,⟨z,p⟩,⟨A,q⟩,⟨B,r⟩,⟨C,s⟩,E,t⟩:=c9 b;have k:=Yw i;have I:Hid (Aa W c (GY d 0 Zb Zb 0 0 (g+1) j D)):=G;clear i b G;delta D4;go_in;go_upto_region 1 with fail;rw[<-k.o];clear k u v x y z A B C E l m n o p q r s t;have⟨⟨u,l⟩,⟨v,m⟩,⟨x,n⟩,⟨y,o⟩,⟨z,p⟩,⟨A,q⟩,⟨B,r⟩,⟨C,s⟩,E,t⟩:=c9 I;go_wp2_with fail;refine(Jd 0 0 0 (g+1) an an 0 0 0 [] W (cr rfl) Yu).ah ?_;rintro e G ⟨a,h,f,rfl,k,K,J,i⟩;have H:=Aa.A I i;obtain⟨T,R⟩:=H 7 _ rfl;have b:=Yw (Za H (Za i (Za k (Za K J))));clear K J k H i u v x y z A B C E l m n o p q r s t;go_wp2;exact⟨rfl,_,results_none rfl _ _ _,rfl,a,Aa.set b.1 7 _,(F.ag (Tn.of b.2.1)).ag (Bi _ _ _ _),Zm F.size b.2.2.1,h,f,b.2.2.2.1.S (Below.heap_setCell _ _ _ _ (λe=>by have O:=b.2.2.1;have k:=F.size;have i:a=c:=e;omega)),b.2.2.2.2⟩
theorem XL(a:Zl)(s x:Zi):x∈BE a s↔x∈a\/x=s:=by
 unfold BE;split
 .rename_i h
  simp at h;constructor
  .exact λh=> cr h
  rintro(b|rfl)
  .exact b
  exact h
 simp
theorem Oz(a:Zl):∀(o:Zl) (x:Zi),x∈a.foldl BE o↔x∈o\/x∈a:=by
 induction a with
 |nil=>intro o x;simp
 |cons y ys ih=>intro o x;rw[foldl_cons,ih,XL,Bh,or_assoc]
theorem Abp{a:Zl}(h:s∈a):(a++[s]).foldl BE []=a.foldl BE []:=by rw[foldl_append,foldl_cons,foldl_nil];have:s∈a.foldl BE []:=(Oz a [] s).2 (ct h);exact if_pos (C9 this)
theorem XM{a:Zl}(h:s∉a):(a++[s]).foldl BE []=a.foldl BE []++[s]:=by rw[foldl_append,foldl_cons,foldl_nil];have:s∉a.foldl BE []:=λe=>h (((Oz a [] s).1 e).resolve_left Yu);exact if_neg (C9 this)
def HS(w:Zh)(base eb sb:Nat)(xs:Zl):Prop:=
 ∃V b n c f,Aa w sb [V]/\Aa w eb [.map (ai b)]/\Ah w base V (xs.foldl BE [])/\AW w 160 b n c f/\MK xs f c/\n<=ed xs/\(∀g,Aj V=ai g->g≠sb/\g≠eb/\g≠b)/\sb≠eb/\sb≠b/\eb≠b/\base<=sb/\base<=eb/\base<=b
theorem HS.A{i:Zh}{g:Nat}{xs:Zl}(h:HS w base d g xs)(a:Zz w i):HS i base d g xs:=by obtain⟨V,b,n,c,f,j,k,l,e,m⟩:=h;exact⟨V,b,n,c,f,j.A a,k.A a,l.A a,e.ak a e.lt,m⟩
theorem LD(wd:Int){i:Zl}(s:Zi)(h:HS w d r p i)(F:∀x∈i,(x.size:Int)=wd)(hs:(s.size:Int)=wd)(h8:wd<=8)(hl:ed i<=1000)(U:d<=w.1.size):
 D4 205 #[.string s,Yy r,Yy p] w fun e a=>(∃v,e=.returned v)/\HS a d r p (i++[s])/\bg d w a:=by
 obtain⟨V,b,n,c,f,A,C,j,D,u,yB,J,m,l,o,E,Q,zN⟩:=h;have⟨N,hn,zO,zP,a⟩:=u.get (keyL s);obtain⟨y,z,rfl,_⟩:=j.row;have HI:Hid (0<N↔s∈i):=a.trans (Qw F hs h8);have hlen:ed (i.foldl BE [])<=100000000:=by have:=Jc i [];simp at this;omega
 have t:=Yw (Za A (Za C (Za j (Za D u))));clear A C j D u a F;delta D4;go_in;go_wp2_with fail;refine(FP s w).mono ?_;rintro e x ⟨rfl,C⟩;obtain⟨⟨B,D⟩,W,F⟩:=Ag x.1.size,Du x (Yk (kB s)) 160;have I:bg x.1.size x W:=by rw[F];exact Zy
 have A:bg w.1.size w W:=C.trans (I.mono C.size);have zB:w.1.size<=B:=by rw[D];exact C.size
 have zW:B<W.1.size:=by rw[F,D];simp
 have u:Aa W B (AZ s):=by rw[F,D];exact Aa.new x (AZ s) 160
 have a:Hid (AW W 160 b n c f/\Aa W p [bx y (ed (i.foldl BE [])) z]/\Aa W r [.map (ai b)]/\Ah W d (bx y (ed (i.foldl BE [])) z) (i.foldl BE [])/\MK i f c/\(∀g,Aj (bx y (ed (i.foldl BE [])) z)=ai g->g≠p/\g≠r/\g≠b)/\bg d w W):=⟨t.2.2.2.1.ak A t.2.2.2.1.lt,t.1.A A,t.2.1.A A,t.2.2.1.A A,t.2.2.2.2,J,A.mono U⟩;have S:=a.1.map.look keyed underlying137 (Hm W) (CW s);rw[hn]at S;obtain⟨e0,⟨s0,g0⟩,zV,zU,zT⟩:=(a.2.2.1 0 _ rfl).1,a.2.1 0 _ rfl,Aa.lt a.2.1,Aa.lt a.2.2.1,AW.lt a.1;have yD:w.1.size<=W.1.size:=A.size;have H:=Yw F;have G:=Yw D;have yC:p<B:=Zr (Aa.lt t.1) zB;have yA:r<B:=Zr (Aa.lt t.2.1) zB;have zZ:b<B:=Zr (AW.lt t.2.2.2.1) zB;have zS:Hid (∀g,Aj (bx y (ed (i.foldl BE [])) z)=ai g->g<B):=fun g j=>Zr (Ah.S t.2.2.1 j).2 zB;clear F D A I C t J;unfold Ce CJ at S |-;go_upto_region 1 with fail;rw[<-H.o,<-G.o];clear H G;obtain⟨⟨y0,_⟩,⟨y1,_⟩,⟨y2,_⟩,⟨y3,_⟩,⟨y4,_⟩,⟨y5,_⟩,⟨y6,_⟩,y7,_⟩:=u 0 _ rfl,u 1 _ rfl,u 2 _ rfl,u 3 _ rfl,u 4 _ rfl,u 5 _ rfl,u 6 _ rfl,u 7 _ rfl;have HY:Hid (Aa W B (AZ s)):=u;clear u;by_cases hin:0<N
 .have hq:(N==0)=ba:=by simp;omega
  have zE:Hid (s∈i):=HI.1 hin;go_upto_region 3 with fail;have M:bg W.1.size W W.drew:=Ae.drew;obtain⟨st,w3,O,L,I,H,zH,J,zG,G⟩:=(AW.ak a.1 M (AW.lt a.1)).iu keyed underlying137 (by unfold maxLen;omega) Hm (CW s) (Zg (N+1));rw[hn]at L I H;unfold goInt at L zH;unfold Ce CJ at L I H;have u:ek W O (ai b):=(Al _ M).trans G;have Y:Hid (HS O d r p (i++[s])/\bg d w O):=by
   refine⟨⟨bx y (ed (i.foldl BE [])) z,b,n+1,_,_,Aa.az a.2.1 u (fun e=>l e.symm),Aa.az a.2.2.1 u (fun e=>o e.symm),?_,J,MK.snoc a.2.2.2.2.1 s zO zP,by simp;omega,a.2.2.2.2.2.1,m,l,o,E,Q,zN⟩,a.2.2.2.2.2.2.trans (Ae.grown u (by omega) (fun q e=>by cases e;omega))⟩;have F:=Ah.stays a.2.2.2.1 u.size (fun g j=>u.block g (Ah.S a.2.2.2.1 j).2 (fun e=>(a.2.2.2.2.2.1 g j).2.2 (A2 e)));rw[Abp zE.o];exact F
  clear J zG G u a M S
  go_region
  all_goals
   go_wp2;go_end0;exact⟨⟨_,rfl⟩,Y.1,Y.2⟩
 have hz:N=0:=by omega
 have hq:(N==0)=ay:=by simpa using hz
 have zE:Hid (s∉i):=fun e=>hin (HI.2 e);obtain⟨V',P,hr,T,R,zF⟩:=KZ (a.2.2.2.1.A (Zy (o:=bs #[.string s] 9))) ⟨W.1.size,0,an⟩ 1 s (by simp[go_sem]) hlen (by simp;omega) 23;obtain⟨A,C,rfl,_⟩:=T.row;simp only[Am,length_cons,length_nil,Ax]at hr T zF;have zA:(W.alloc (bs #[.string s] 9)).1.size=W.1.size+1:=by simp
 have bA:bg W.1.size W (W.alloc (bs #[.string s] 9)):=Zy;have Z:∀k,k<W.1.size->(∀g,Aj (bx y (ed (i.foldl BE [])) z)=ai g->g≠k)->P.1[k]?=W.1[k]?:=fun k t j=>(R.block k (by omega) (fun e=>j k e.symm rfl)).trans (bA.block k t);have zC:Aa P p [bx y (ed (i.foldl BE [])) z]:=Aa.same a.2.1 (Z p zV (fun g j=>(a.2.2.2.2.2.1 g j).1));have zI:Aa P r [.map (ai b)]:=Aa.same a.2.2.1 (Z r zU (fun g j=>(a.2.2.2.2.2.1 g j).2.1));have zK:Aa P B (AZ s):=Aa.same HY (Z B zW (fun g j=>Nat.ne_of_lt (zS g j)));have zM:AW P 160 b n c f:=AW.S a.1 (Z b zT (fun g j=>(a.2.2.2.2.2.1 g j).2.2));have D:∀g,Aj (bx A (ed (i.foldl BE [])+1) C)=ai g->g≠p/\g≠r/\g≠b:=fun g j=>by
  rcases zF with h'|h'
  .exact a.2.2.2.2.2.1 g (h'▸j)
  rw[h',zA]at j;cases j;exact⟨by omega,by omega,by omega⟩
 have⟨X,K⟩:=D2 P p 0 (bx A (ed (i.foldl BE [])+1) C);have yE:=R.size;have bX:bg d w X:=by rw[K];exact(a.2.2.2.2.2.2.trans ((bA.mono (by omega)).grown R (by omega) (fun k e=>(Ah.S a.2.2.2.1 e).1))).setCell (by simpa using E) _
 have v:∀k,k≠p->X.1[k]?=P.1[k]?:=fun k t=>by rw[K];exact Below.heap_setCell _ _ _ _ t
 have zX:W.1.size+1<=X.1.size:=by rw[K];simp;omega
 have k:Hid (AW X 160 b n c f/\Aa X p [bx A (ed (i.foldl BE [])+1) C]/\Aa X r [.map (ai b)]/\Ah X d (bx A (ed (i.foldl BE [])+1) C) (i.foldl BE []++[s])/\MK i f c/\(∀g,Aj (bx A (ed (i.foldl BE [])+1) C)=ai g->g≠p/\g≠r/\g≠b)/\bg d w X):=
  ⟨AW.S zM (v b (fun e=>l e.symm)),by rw[K];exact zC.set 0 _,zI.same (v r (fun e=>m e.symm)),T.stays (by rw[K];simp) (fun g j=>v g (D g j).1),a.2.2.2.2.1,D,bX⟩
 have t:Aa X B (AZ s):=zK.same (v B (by omega));have zY:=(k.2.2.1 0 _ rfl).1;obtain⟨s5,g5⟩:=zC 0 _ rfl;obtain⟨z0,_⟩:=t 0 _ rfl;obtain⟨z1,_⟩:=t 1 _ rfl;obtain⟨z2,_⟩:=t 2 _ rfl;obtain⟨z3,_⟩:=t 3 _ rfl;obtain⟨z4,_⟩:=t 4 _ rfl;obtain⟨z5,_⟩:=t 5 _ rfl;obtain⟨z6,_⟩:=t 6 _ rfl;obtain⟨z7,_⟩:=t 7 _ rfl;have zJ:=Yw K;clear K v bX t zC zI zK zM D T zF Z bA R zA;go_wp2_with (first
  |(at_builtin;refine wpList_append_run rfl _ _ 23 23 rfl rfl rfl hr ?_)
  |go_in)
 clear y0 y1 y2 y3 y4 y5 y6 y7 hr;go_upto_region 3 with fail;rw[<-zJ.o];clear zJ a;have a:=k;clear k s0 g0 s5 g5 e0 hz hq hin;have M:bg X.1.size X X.drew:=Ae.drew;obtain⟨st,w3,O,L,I,H,zH,J,zG,G⟩:=(AW.ak a.1 M (AW.lt a.1)).iu keyed underlying137 (by unfold maxLen;omega) Hm (CW s) (Zg (N+1));rw[hn]at L I H;unfold goInt at L zH;unfold Ce CJ at L I H;have u:ek X O (ai b):=(Al _ M).trans G;have Y:Hid (HS O d r p (i++[s])/\bg d w O):=by
  refine⟨⟨bx A (ed (i.foldl BE [])+1) C,b,n+1,_,_,Aa.az a.2.1 u (fun e=>l e.symm),Aa.az a.2.2.1 u (fun e=>o e.symm),?_,J,MK.snoc a.2.2.2.2.1 s zO zP,by simp;omega,a.2.2.2.2.2.1,m,l,o,E,Q,zN⟩,a.2.2.2.2.2.2.trans (Ae.grown u (by omega) (fun q e=>by cases e;omega))⟩;have F:=Ah.stays a.2.2.2.1 u.size (fun g j=>u.block g (Ah.S a.2.2.2.1 j).2 (fun e=>(a.2.2.2.2.2.1 g j).2.2 (A2 e)));rw[XM zE.o];exact F
 clear J zG G u a M S
 go_region
 all_goals
  go_wp2;go_end0;exact⟨⟨_,rfl⟩,Y.1,Y.2⟩
theorem TD(b:C7)(a:C6):DK b a=(b.map (·.sum)++a.map (·.sum)).foldl BE []:=by rw[foldl_append];rfl
theorem Qy{T:Nat}{O:Dg}{r zE:Int}{ks:C5}{a:C7}{j:C6}(h:Dr w T d m O P L r zE F u ks a j)(S:ed a<=100)(hl:ed j<=200)(s:∀p∈a,(p.sum.size:Int)=r)(q:∀l∈j,(l.sum.size:Int)=r)(h8:r<=8):
 D4 161 #[Yy d] w λe o=>∃V,e=C1 V/\Ah o w.1.size V (DK a j)/\Zz w o:=by
 obtain⟨pa,zK,rfl⟩:=AB h.co;obtain⟨la,zJ,rfl⟩:=AB h.di;have zB:Hid (Bd w w.1.size pa a):=Bd.own h.co;have zA:Hid (Ba w w.1.size la j):=Ba.own h.di;have HD:=Yw h;have zG:=h.box.lt;have zH:∀(fn:Fn) (first cap:Array Value) (w:Zh),(Instr.makeFunc fn first cap).run prog w=.ok (.func fn first cap) w:=λ_ _ _ _=>rfl;have zI:= @run_makeMap prog;have N:Hid (∀x∈a.map (·.sum),(x.size:Int)=r):=by intro x l;obtain⟨p,S,rfl⟩:=mem_map.1 l;exact s p S
 have U:Hid (∀x∈j.map (·.sum),(x.size:Int)=r):=by intro x l;obtain⟨p,S,rfl⟩:=mem_map.1 l;exact q p S
 have⟨W,o⟩:=Ag (((w.alloc (bs #[Zb] 23)).alloc (.map #[] 0)).alloc (bs #[.map (ai (w.1.size+1))] 137));have c:bg w.1.size w W:=by rw[o];exact((Zy).alloc Yu _).alloc Yt _
 have H0:Hid (HS W w.1.size (w.1.size+2) w.1.size []):=by
  have G:Aa W w.1.size [Zb]:=by rw[o];exact Aa.A (Aa.A (Aa.new w [Zb] 23) (Zy)) (Zy)
  have H:AW W 160 (w.1.size+1) 0 0 (λ_=>an):=by have:=AW.new (w.alloc (bs #[Zb] 23)) 160;rw[Aq]at this;rw[o];exact this.ak (Zy) Yu
  have f:Aa W (w.1.size+2) [.map (ai (w.1.size+1))]:=by have:=Aa.new ((w.alloc (bs #[Zb] 23)).alloc (.map #[] 0)) [.map (ai (w.1.size+1))] 137;rw[Aq,Aq]at this;rw[o];exact this
  exact⟨_,_,0,0,_,G,f,Ah.nil _ _,H,MK.nil,Zx,(λg t=>by cases t),Yv,Yv,Yv,Yv,Yv,Yv⟩
 obtain⟨n,_⟩:=Aa.A h.box c 6 _ rfl;have t:=Yw o;clear o h s q;delta D4;go_in;go_upto_region 3 with fail;rw[<-t.o];clear t;go_wp2;go_loopw [17] (λi wr=>∃k:Nat,k<=ed a/\i=Zg k/\Hid (HS wr w.1.size (w.1.size+2) w.1.size ((a.map (·.sum)).take k)/\Zz w wr)) (λi _=>ed a -(intOf i).toNat)
 case atStart=>exact⟨0,Aw _,rfl,H0,c⟩
 obtain⟨k,hk,rfl,t⟩:=hrel;have h:=t.2;have E:=h.size;by_cases hlt:k<ed a
 .obtain⟨b,zF,g,hb,I⟩:=(Bd.A zB h).at hlt;subst g;have Y:Hid (a[k]?=ai a[k]):=Zv hlt;obtain⟨G,H⟩:=I k _ Y;have Z:Hid ((a.map (·.sum)).take (k+1)=(a.map (·.sum)).take k++[a[k].sum]):=by show _=_;rw[Zu (C9 hlt)];simp
  have R:(a[k].sum.size:Int)=r:=N _ (mem_map.2 ⟨_,getElem_mem hlt,rfl⟩);clear I;generalize a[k]=x at *
  have⟨o,q⟩:=Du wr #[C0 x.name,C0 x.sum] 148;have s:bg wr.1.size wr o:=by rw[q];exact Zy
  have x1:eh o (Zd (wr.1.size) 1)=ai (C0 x.sum):=by rw[q];simp[go_sem]
  have K:Hid (HS o w.1.size (w.1.size+2) w.1.size ((a.map (·.sum)).take k)):=t.1.A s;have z:=Yw q;have zC:=s.size;have Q:bg w.1.size w o:=h.ag (s.ah E);have M:Hid (∀y∈(a.map (·.sum)).take k,(y.size:Int)=r):=λy D=>N y (mem_of_mem_take D);clear q s;go_upto_region 7 with fail;rw[<-z.o];clear z G H;go_wp2_with fail;refine Calls.mono (LD r x.sum K M R h8 Yt Yv) ?_;rintro e J ⟨⟨v,rfl⟩,B,A⟩;have X:Hid (HS J w.1.size (w.1.size+2) w.1.size ((a.map (·.sum)).take (k+1))/\Zz w J):=⟨by rw[Z.o];exact B,Q.ag A⟩;clear B A;go_wp2;exact⟨⟨k+1,Yv,Yn,X⟩,Ys⟩
 have C:(a.map (·.sum)).take k=a.map (·.sum):=Zt Yt;have HJ:Hid (HS wr w.1.size (w.1.size+2) w.1.size (a.map (·.sum))):=C▸t.1;obtain⟨q0,_⟩:=Aa.A HD.box h 7 _ rfl;have HB:Hid (Zz w wr):=h;clear t C n c;go_wp2;go_loopw [31] (λi wr=>∃k:Nat,k<=ed j/\i=Zg k/\Hid (HS wr w.1.size (w.1.size+2) w.1.size (a.map (·.sum)++(j.map (·.sum)).take k)/\Zz w wr)) (λi _=>ed j -(intOf i).toNat)
 case atStart=>exact⟨0,Aw _,rfl,C9 HJ.o,h⟩
 clear q0 h E;obtain⟨k,hk,rfl,t⟩:=hrel;have h:=t.2;have E:=h.size;by_cases hlt:k<ed j
 .obtain⟨b,zF,g,hb,I⟩:=(Ba.A zA h).at hlt;subst g;have Y:Hid (j[k]?=ai j[k]):=Zv hlt;obtain⟨G,H,f⟩:=I k _ Y;have Z:Hid ((j.map (·.sum)).take (k+1)=(j.map (·.sum)).take k++[j[k].sum]):=by show _=_;rw[Zu (C9 hlt)];simp
  have R:(j[k].sum.size:Int)=r:=U _ (mem_map.2 ⟨_,getElem_mem hlt,rfl⟩);clear I;generalize j[k]=x at *
  have⟨o,q⟩:=Du wr #[Zg x.M,C0 x.sum,Zg x.ci] 112;have s:bg wr.1.size wr o:=by rw[q];exact Zy
  have x1:eh o (Zd (wr.1.size) 1)=ai (C0 x.sum):=by rw[q];simp[go_sem]
  have K:Hid (HS o w.1.size (w.1.size+2) w.1.size (a.map (·.sum)++(j.map (·.sum)).take k)):=t.1.A s;have z:=Yw q;have zC:=s.size;have Q:bg w.1.size w o:=h.ag (s.ah E);have M:Hid (∀y∈a.map (·.sum)++(j.map (·.sum)).take k,(y.size:Int)=r):=λy D=>by
   rcases A5.1 D with D|D
   .exact N y D
   exact U y (mem_of_mem_take D)
  clear q s;go_upto_region 12 with fail;rw[<-z.o];clear z G H f;go_wp2_with fail;refine Calls.mono (LD r x.sum K M R h8 Yt Yv) ?_;rintro e J ⟨⟨v,rfl⟩,B,A⟩;have X:Hid (HS J w.1.size (w.1.size+2) w.1.size (a.map (·.sum)++(j.map (·.sum)).take (k+1))/\Zz w J):=⟨by rw[Z.o,<-append_assoc];exact B,Q.ag A⟩;clear B A;go_wp2;exact⟨⟨k+1,Yv,Yn,X⟩,Ys⟩
 have C:(j.map (·.sum)).take k=j.map (·.sum):=Zt Yt;have⟨V,b,n,c,f,s,_,q,_⟩:=t.1;rw[C,<-TD]at q;obtain⟨A,B,rfl,_⟩:=q.row;obtain⟨G,_⟩:=s 0 _ rfl;have z:=Yw q;clear s q C;go_wp2;go_ret;exact⟨_,rfl,z,h⟩
section
structure BX (B:Nat) (V:List Nat) (w w':Zh):Prop where
 os:w'.os=w.os
 tape:w'.tape=w.tape
 output:w'.output=w.output
 size:w.1.size<=w'.1.size
 block:∀b,b<B->b∉V->w'.1[b]?=w.1[b]?
theorem BX.of{a:Zh}(h:bg B w a):BX B V w a:=⟨h.os,h.tape,h.output,h.size,λb c _=>h.block b c⟩
theorem BX.tn{a:Zh}(h:Tn V w a)(d:B<=w.1.size):BX B V w a:=⟨h.os,h.tape,h.output,h.size,λb c c=>h.block b Yv c⟩
theorem BX.trans{a b c:Zh}(h:BX B V a b)(k:BX B V b c):BX B V a c:=⟨k.os.ag h.os,k.tape.ag h.tape,k.output.ag h.output,Zm h.size k.size,λx e d=>(k.block x e d).ag (h.block x e d)⟩
abbrev BX.ag:=@BX.trans
theorem BX.A{a:Nat}{c:Zh}(h:BX B V w c)(f:a<=B)(d:∀b∈V,a<=b):bg a w c:=⟨h.os,h.tape,h.output,h.size,λb g=>h.block b Yv (λe=>C8 (d b e))⟩
structure Is (c mm:Nat) (q r s:Option Nat):Prop where
 cm:c≠mm
 q:∀g,q=ai g->g≠c/\g≠mm/\r≠ai g/\s≠ai g
 r:∀g,r=ai g->g≠c/\g≠mm/\s≠ai g
 s:∀g,s=ai g->g≠c/\g≠mm
theorem Is.jk{a:Nat}{q d r s:Option Nat}(h:Is c a q r s)(i:∀g,d=ai g->q=ai g\/n<=g)(l:c<n)(m:a<n)(j:∀g,r=ai g->g<n)(k:∀g,s=ai g->g<n):Is c a d r s:=by
 refine⟨h.cm,λg f=> ?_,h.r,h.s⟩;rcases i g f with b|b
 .exact h.q g b
 exact⟨Yv,Yv,λe=>C8 (j g e),λe=>C8 (k g e)⟩
theorem Is.newR{q r j s:Option Nat}(h:Is c d q r s)(i:∀g,j=ai g->r=ai g\/n<=g)(t:c<n)(u:d<n)(o:∀g,q=ai g->g<n)(p:∀g,s=ai g->g<n):Is c d q j s:=by
 refine⟨h.cm,λg b=> ?_,λg b=> ?_,h.s⟩
 .obtain⟨a,k,l,m⟩:=h.q g b;refine⟨a,k,λe=> ?_,m⟩;rcases i g e with f|f
  .exact l f
  have:=o g b;omega
 rcases i g b with a|a
 .exact h.r g a
 exact⟨Yv,Yv,λe=>C8 (p g e)⟩
theorem Is.newS{q r s l:Option Nat}(h:Is c k q r s)(j:∀g,l=ai g->s=ai g\/n<=g)(t:c<n)(u:k<n)(o:∀g,q=ai g->g<n)(p:∀g,r=ai g->g<n):Is c k q r l:=by
 refine⟨h.cm,λg a=> ?_,λg a=> ?_,λg a=> ?_⟩
 .obtain⟨b,f,i,m⟩:=h.q g a;refine⟨b,f,i,λe=> ?_⟩;rcases j g e with d|d
  .exact m d
  have:=o g a;omega
 .obtain⟨b,f,i⟩:=h.r g a;refine⟨b,f,λe=> ?_⟩;rcases j g e with d|d
  .exact i d
  have:=p g a;omega
 rcases j g a with b|b
 .exact h.s g b
 exact⟨Yv,Yv⟩
structure CM (w:Zh) (base B c d m:Nat) (O P L:Value) (wd now given births:Int) (ks:List Kd) (ps:List Pd) (ls:List Ld) (ph top at_ ro:Int) (Q M D:Value) (mm:Nat) (qs ms ns ds:Zl):Prop where
 R:Dr w base d m O P L wd now given births ks ps ls
 db:DB w base B d m O P L wd births ks
 box:Aa w c (GY d ph Q M top at_ ro mm D)
 q:Ah w B Q qs
 mr:Ah w B M ms
 dd:Ah w B D ds
 gp:∃n cc f,AW w 160 mm n cc f/\MK ns f cc/\n<=ed ns
 ap:Is c mm (Aj Q) (Aj M) (Aj D)
 bc:B<=c
 bm:B<=mm
 bB:base<=B
theorem Dr.gd{p:Zh}{i:Nat}{O:Dg}{q l c:Int}{o:C5}{v:C7}{u:C6}(h:Dr w i d m O P L q l c a o v u)(s:DB w i B d m O P L q a o)(t:Tn V w p)(r:∀b∈V,B<=b):Dr p i d m O P L q l c a o v u:=by have k:∀b∈vB d m O P L,p.1[b]?=w.1[b]?:=λb j=>t.block b (h.dj b j) (λe=>by have:=r b e;have:=s.1 b j;omega);have⟨_,n,f,z,x,y,_⟩:=s.O t r;exact⟨Aa.same h.box (k d Ja),⟨n,f,z,x,y⟩,Ar h.ord (λg j=>k g Lg),Ar h.co (λg j=>k g Lg),Ar h.di (λg j=>k g Lg),h.bd,h.bm,h.ap⟩
theorem CM.hu{g:Nat}{O:Dg}{o:C5}{R:C7}{H:C6}{V:Int}{I:Nat}{U J K y:Zl}(h:CM w g B c d m O P L wd v e a o R H N x t V Q M D I U J K y):∃n f,n<=1000000+a.toNat/\AY w 160 m n f/\Holds w B wd o f:=by
 have⟨_,n,f,A,C,E,F⟩:=h.db;refine⟨n,f,A,C,λs l=> ?_⟩;rcases E s l with z|⟨u,q,r,S,T,p,j⟩
 .exact cr z
 refine ct ⟨u,q,r,S,T,p,?_⟩;rcases j with j|⟨b,i,k,_,_,_,G⟩
 .exact cr j
 by_cases hr:ed u.C=0
 .exact cr (A9 hr)
 exact ct ⟨b,i,k,F s l u q r p ⟨b,i,an⟩ k hr,G⟩
theorem CM.lo{e:Nat}{O:Dg}{b:Int}{k:C5}{r:C7}{l:C6}{q f:Int}{s o p:Zl}(h:CM w e B c d m O P L u g b a k r l q i f t Q M D n s o p j):B<=w.1.size:=by have:=h.bc;have:=h.box.lt;omega
theorem CM.O{G:Zh}{O:Dg}{r:Int}{v:C5}{C:C7}{x:C6}{A s q:Int}{E y t:Zl}(h:CM w l B c d m O P L H r i a v C x A s q F Q M D p E y z t)(k:Tn V w G)(j:∀b∈V,B<=b/\b≠c/\b≠p/\Aj Q≠ai b/\Aj M≠ai b/\Aj D≠ai b):CM G l B c d m O P L H r i a v C x A s q F Q M D p E y z t:=by
 have⟨n,I,f,u,J⟩:=h.gp;have K:=k.block c h.box.lt (λe=>(j c e).2.1 rfl);exact⟨h.R.gd h.db k (λb o=>(j b o).1),h.db.O k (λb o=>(j b o).1),Aa.same h.box K,h.q.O k (λg o e=>(j g e).2.2.2.1 o),h.mr.O k (λg o e=>(j g e).2.2.2.2.1 o),h.dd.O k (λg o e=>(j g e).2.2.2.2.2 o),⟨n,I,f,u.S (k.block p u.lt (λe=>(j p e).2.2.1 rfl)),J⟩,h.ap,h.bc,h.bm,h.bB⟩
theorem CM.A{t:Zh}{O:Dg}{f b:Int}{j:C5}{q:C7}{k:C6}{p s:Int}{r n o i:Zl}(h:CM w base B c d m O P L u f b a j q k p g e s Q M D l r n o i)(v:Zz w t):CM t base B c d m O P L u f b a j q k p g e s Q M D l r n o i:=
 h.O (V:=[]) (Tn.of v) Yu
theorem CM.put{O:Dg}{V C:Int}{K:C5}{T:C7}{N:C6}{S U:Int}{X:Zl}(h:CM w l B c d m O P L V C i a K T N S H y U Q M D r qs ms R X)(j:Nat)(v:Dg){G:Int}{u t D':Dg}{F A:Zl}(he:(GY d S Q M H y U r D).set j v=GY d E u t o x G r D')(hq:Ah w B u F)(hm:Ah w B t A)(hd:Ah w B D' z)(p:Is c r (Aj u) (Aj t) (Aj D')):
 CM (el w (Zd c j) v) l B c d m O P L V C i a K T N E o x G u t D' r F A R z:=by
 have⟨n,W,f,Y,Z⟩:=h.gp;have J:=Bi w c j v;have I:∀b∈[c],B<=b:=by simp;exact h.bc
 have q:∀k,k≠c->(el w (Zd c j) v).1[k]?=w.1[k]?:=λk s=>Below.heap_setCell _ _ _ _ s;exact⟨h.R.gd h.db J I,h.db.O J I,he▸h.box.set j v,hq.stays Kg (λg s=>q g (p.q g s).1),hm.stays Kg (λg s=>q g (p.r g s).1),hd.stays Kg (λg s=>q g (p.s g s).1),⟨n,W,f,Y.S (q r (λe=>h.ap.cm e.symm)),Z⟩,p,h.bc,h.bm,h.bB⟩
theorem CM.bumped{q:Zh}{o:Nat}{O:Dg}{z:C5}{F:C7}{A:C6}{s:Int}{C T x:Zl}(h:CM w o B c d m O P L I t i a z F A E u s H Q M D l G C T x)(j:ek w q (ai l)){v:Nat}{f:Lit->Option Value}{r:Zl}(K:AW q 160 l n v f)(J:MK r f v)(S:n<=ed r):CM q o B c d m O P L I t i a z F A E u s H Q M D l G C r x:=by
 have p:Tn [l] w q:=Tn.grown j Kg;have y:∀b∈[l],B<=b:=by simp;exact h.bm
 have N:∀k,k<w.1.size->k≠l->q.1[k]?=w.1[k]?:=λk R e=>p.block k R (C9 e);exact⟨h.R.gd h.db p y,h.db.O p y,Aa.same h.box (N c h.box.lt h.ap.cm),h.q.O p (λg j e=>(h.ap.q g j).2.1 (C9 e)),h.mr.O p (λg j e=>(h.ap.r g j).2.1 (C9 e)),h.dd.O p (λg j e=>(h.ap.s g j).2 (C9 e)),⟨n,v,f,K,J,S⟩,h.ap,h.bc,h.bm,h.bB⟩
theorem CM.gn{p:Zh}{O:Dg}{X:Int}{W:C7}{r:Int}{V ds:Zl}(h:CM w q B c d m O P L X N o i T W U E u r F Q M D l qs ms V ds){b:Option Nat}(a:ek w p b)(hb:∀g,b=ai g->B<=g/\g≠c/\g≠l)(j:Nat)(v:Dg){z y x:Dg}{K:Zl}(he:(GY d E Q M u r F l D).set j v=GY d E z y u r F l x)(hq:Ah p B z R)(hm:Ah p B y K)(hd:Ah p B x G)(s:Is c l (Aj z) (Aj y) (Aj x)):
 CM (el p (Zd c j) v) q B c d m O P L X N o i T W U E u r F z y x l R K V G:=by
 have⟨n,cc,f,S,h2⟩:=h.gp;have C:=CX a;have A:∀g∈b.toList,B<=g/\g≠c/\g≠l:=λg a=>hb g (C9 a);obtain⟨Y,Z,J,I⟩:=C.block c h.box.lt (λe=>(A c e).2.1 rfl),h.R.gd h.db C (λg a=>(A g a).1),h.db.O C (λg a=>(A g a).1),Bi p c j v;have H:∀b∈[c],B<=b:=by simp;exact h.bc
 have t:∀k,k≠c->(el p (Zd c j) v).1[k]?=p.1[k]?:=λk k=>Below.heap_setCell _ _ _ _ k;exact⟨Z.gd J I H,J.O I H,he▸(Aa.same h.box Y).set j v,hq.stays Kg (λg a=>t g (s.q g a).1),hm.stays Kg (λg a=>t g (s.r g a).1),hd.stays Kg (λg a=>t g (s.s g a).1),⟨n,cc,f,(S.S (C.block l S.lt (λe=>(A l e).2.2 rfl))).S (t l (λe=>h.ap.cm e.symm)),h2⟩,s,h.bc,h.bm,h.bB⟩
theorem Ny{O:Dg}{n:Int}{X:C7}{G s:Int}{F:Nat}{Y V W N:Zl}(h:CM w q B c d m O P L wd K o n T X U G v s H Q M D F Y V W N){R:Dg}{a:Zk}{Z:Nat}{i:Zl}(C:Ah w B R i)(_hRe:R=Cx a (ed i) Z)(I:∀g,Aj R=ai g->g≠c)(t:Zi)(S:ed i<=100000000)(j:Nat):
 ∃l f k,(Builtin.append_ #[23,23] 23 #[R,Yz w.1.size 1 1]).run prog (w.alloc (bs #[C0 t] 9))=.ok (Cx l (ed i+1) f) k/\Aa k c (GY d G Q M v s H F D)/\ek w k (Aj R)/\Ah k B (Cx l (ed i+1) f) (i++[t])/\(∀g,Aj (Cx l (ed i+1) f)=ai g->Aj R=ai g\/w.1.size<=g)/\Tn (c::(Aj R).toList) w (el k (Zd c j) (Cx l (ed i+1) f))/\bg B w (el k (Zd c j) (Cx l (ed i+1) f)):=by
 have A:bg w.1.size w (w.alloc (bs #[C0 t] 9)):=Zy;have dm:=h.lo;obtain⟨V',k,E,p,J,u⟩:=KZ (C.A A) ⟨w.1.size,0,an⟩ 1 t F3 S Yt 23;obtain⟨l,f,rfl,_⟩:=p.row;simp only[Am,length_cons,length_nil,Ax]at E p u;have z:ek w k (Aj R):=(Al _ A).ag J;have r:Aa k c _:=Aa.same h.box (z.block c h.box.lt (λe=>I c e.symm rfl));have hT:Tn (c::(Aj R).toList) w (el k (Zd c j) (Cx l (ed i+1) f)):=((CX z).ah (by simp;exact λb h=> ct h)).ag (Tn.set _ _ _ _ Yu);refine⟨l,f,k,E,r,z,p,λg e=> ?_,hT,hT.A dm (λb y=> ?_)⟩
 .rcases u with x|x
  .rw[x]at e;exact cr e
  rw[x]at e;have:=A2 e;simp at this;exact ct Yv
 rcases Bh.1 y with rfl|y
 .exact h.bc
 exact(C.S (C9 y)).1
theorem CM.pushQ{O:Dg}{I:C7}{E:C6}{F:Nat}{A:Zl}{a:Zk}{u:Nat}(h:CM w r B c d m O P L K x o i C I E H y v J (Cx a (ed j) u) M D F j A G z)(t:Zi)(V:ed j<=100000000):
 ∃q k l,(Builtin.append_ #[23,23] 23 #[Cx a (ed j) u,Yz w.1.size 1 1]).run prog (w.alloc (bs #[C0 t] 9))=.ok (Cx q (ed j+1) k) l/\eh l (Zd c 2)=ai (Cx a (ed j) u)/\ei l ⟨c,2,an⟩=ba/\
  CM (el l (Zd c 2) (Cx q (ed j+1) k)) r B c d m O P L K x o i C I E H y v J (Cx q (ed j+1) k) M D F (j++[t]) A G z/\Tn (c::(Aj (Cx a (ed j) u)).toList) w (el l (Zd c 2) (Cx q (ed j+1) k))/\bg B w (el l (Zd c 2) (Cx q (ed j+1) k)):=by
 obtain⟨⟨q,k,l,W,s,p,S,N,hT,T⟩,n,X,f,U,_⟩:=Ny h h.q rfl (λg b=>(h.ap.q g b).1) t V 2,h.gp;have R:Ah l B M A:=h.mr.stays p.size (λg b=>p.block g (h.mr.S b).2 (λe=>(h.ap.q g e.symm).2.2.1 b));have Q:Ah l B D z:=h.dd.stays p.size (λg b=>p.block g (h.dd.S b).2 (λe=>(h.ap.q g e.symm).2.2.2 b));exact⟨q,k,l,W,(s 2 _ rfl).1,(s 2 _ rfl).2,h.gn p (λg b=>⟨(h.q.S b).1,(h.ap.q g b).1,(h.ap.q g b).2.1⟩) 2 _ rfl S R Q (h.ap.jk N h.box.lt U.lt (λg b=>(h.mr.S b).2) (λg b=>(h.dd.S b).2)),hT,T⟩
theorem CM.pushM{O:Dg}{I:C7}{E:C6}{F:Nat}{A:Zl}{a:Zk}{u:Nat}(h:CM w r B c d m O P L K x o i C I E H y v J Q (Cx a (ed j) u) D F A j G z)(t:Zi)(V:ed j<=100000000):
 ∃q k l,(Builtin.append_ #[23,23] 23 #[Cx a (ed j) u,Yz w.1.size 1 1]).run prog (w.alloc (bs #[C0 t] 9))=.ok (Cx q (ed j+1) k) l/\eh l (Zd c 3)=ai (Cx a (ed j) u)/\ei l ⟨c,3,an⟩=ba/\
  CM (el l (Zd c 3) (Cx q (ed j+1) k)) r B c d m O P L K x o i C I E H y v J Q (Cx q (ed j+1) k) D F A (j++[t]) G z/\Tn (c::(Aj (Cx a (ed j) u)).toList) w (el l (Zd c 3) (Cx q (ed j+1) k))/\bg B w (el l (Zd c 3) (Cx q (ed j+1) k)):=by
 obtain⟨⟨q,k,l,W,s,p,R,M,hT,T⟩,n,X,f,U,_⟩:=Ny h h.mr rfl (λg b=>(h.ap.r g b).1) t V 3,h.gp;have S:Ah l B Q A:=h.q.stays p.size (λg b=>p.block g (h.q.S b).2 (λe=>(h.ap.q g b).2.2.1 e.symm));have N:Ah l B D z:=h.dd.stays p.size (λg b=>p.block g (h.dd.S b).2 (λe=>(h.ap.r g e.symm).2.2 b));exact⟨q,k,l,W,(s 3 _ rfl).1,(s 3 _ rfl).2,h.gn p (λg b=>⟨(h.mr.S b).1,(h.ap.r g b).1,(h.ap.r g b).2.1⟩) 3 _ rfl S R N (h.ap.newR M h.box.lt U.lt (λg b=>(h.q.S b).2) (λg b=>(h.dd.S b).2)),hT,T⟩
theorem CM.pushD{O:Dg}{H:C7}{D:C6}{G:Int}{E:Nat}{A F:Zl}{a:Zk}{u:Nat}(h:CM w r B c d m O P L J x o i C H D G y v I Q M (Cx a (ed j) u) E A z F j)(t:Zi)(V:ed j<=100000000):
 ∃q k l,(Builtin.append_ #[23,23] 23 #[Cx a (ed j) u,Yz w.1.size 1 1]).run prog (w.alloc (bs #[C0 t] 9))=.ok (Cx q (ed j+1) k) l/\eh l (Zd c 8)=ai (Cx a (ed j) u)/\ei l ⟨c,8,an⟩=ba/\
  CM (el l (Zd c 8) (Cx q (ed j+1) k)) r B c d m O P L J x o i C H D G y v I Q M (Cx q (ed j+1) k) E A z F (j++[t])/\Tn (c::(Aj (Cx a (ed j) u)).toList) w (el l (Zd c 8) (Cx q (ed j+1) k))/\bg B w (el l (Zd c 8) (Cx q (ed j+1) k)):=by
 obtain⟨⟨q,k,l,W,s,p,R,K,hT,T⟩,n,X,f,U,_⟩:=Ny h h.dd rfl (λg b=>(h.ap.s g b).1) t V 8,h.gp;have S:Ah l B Q A:=h.q.stays p.size (λg b=>p.block g (h.q.S b).2 (λe=>(h.ap.q g b).2.2.2 e.symm));have N:Ah l B M z:=h.mr.stays p.size (λg b=>p.block g (h.mr.S b).2 (λe=>(h.ap.r g b).2.2 e.symm));exact⟨q,k,l,W,(s 8 _ rfl).1,(s 8 _ rfl).2,h.gn p (λg b=>⟨(h.dd.S b).1,(h.ap.s g b).1,(h.ap.s g b).2⟩) 8 _ rfl S N R (h.ap.newS K h.box.lt U.lt (λg b=>(h.q.S b).2) (λg b=>(h.mr.S b).2)),hT,T⟩
end
theorem TE{a:C6}{x:Ld}(n:Int)(c:a[k]?=ai x):AQ (a.take (k+1)) n=AQ (a.take k) n++(if x.ci<=n then []else [x]):=by obtain⟨b,rfl⟩:=Zw c;unfold AQ;rw[Zu b,filter_append];by_cases h:a[k].ci<=n<;>simp[h]
def Vw(w w':Zh)(e:Ending)(wd now given births:Int)(T P:Value)(ls:List Ld)(ticks:Int):Prop:=
 bg w.1.size w w'/\((1000000000<now+ticks/\e=.returned (ca #[Zg 4,Ze,Ze,Ze,Ze,Zb,Zb,Zb,Zc,Ze,Zc,Zc]))\/
  (now+ticks<=1000000000/\∃g c,e=.returned (ca #[Ze,Zg wd,Zg (now+ticks),Zg given,Zg births,T,P,bx (ai ⟨g,0,an⟩) (ed (AQ ls (now+ticks))) c,Zc,Ze,Zc,Zc])/\ej w' w.1.size 112 3 (bx (ai ⟨g,0,an⟩) (ed (AQ ls (now+ticks))) c) (ed (AQ ls (now+ticks))) (Af lC (AQ ls (now+ticks)))))
theorem TF(t b f d:Int)(p m:Zk){z:Zk}(s r o n B:Nat)(a:Int)(j:Ba w w.1.size z h)(hl:ed h<=1000)(zC:0<=b)(zE:b<=1000000000)(zG:0<=a)(zH:a<=1000000000):
 D4 128 #[ca (Yg t b f d p s r m o n z (ed h) B),Zg a] w λe l=>Vw w l e t b f d (Cx p s r) (Cx m o n) h a:=by
 have⟨W,u⟩:=Ag ((w.alloc (bs (Yg t b f d p s r m o n z (ed h) B) 30)).alloc (bs Yd 81));obtain⟨y,M,A⟩:=(AT u).1,(AT u).2.1,(AT u).2.2.1;have I:Aa W (w.1.size+1) z12:=by have h1:=Aa.new (w.alloc (bs (Yg t b f d p s r m o n z (ed h) B) 30)) z12 81;rw[Aq]at h1;rw[u];exact h1
 have zO:=Ib zC zE zG zH;have F:=Yw u;by_cases hbig:1000000000<b+a
 .obtain⟨⟨⟨Q,q0⟩,⟨R,q1⟩,⟨S,q2⟩,⟨T,q3⟩,⟨U,q4⟩,⟨Z,q5⟩,⟨y6,q6⟩,⟨y7,q7⟩,⟨y8,q8⟩,⟨y9,q9⟩,⟨D,zI⟩,E,zJ⟩,⟨O,_⟩,HB,l⟩:=Br I,A 1 _ rfl,Yw y,Yw hbig;clear u A I j y M;delta D4;go_in;go_upto_region 1 with fail;rw[<-F.o];clear F;go_wp2;refine Co (ca (Yc 4)) It ?_;exact⟨HB.ag (Tn.A (Bw W (w.1.size+1) _ _ _ _ _ _ _ _ _ _ _ _) HB.size (by intro v P;simp at P;omega)),cr ⟨l,rfl⟩⟩
 obtain⟨X,G⟩:=D2 W (w.1.size) 1 (Zg (b+a));have H:Tn [w.1.size] W X:=by rw[G];exact Bi _ _ _ _
 have C:w.1.size+2<=X.1.size:=C8 H.size;have g:Aa X w.1.size (Yh t (b+a) f d p s r m o n z (ed h) B):=by rw[G];exact A.set 1 _
 have i:=Aa.same I (H.block _ Yv Yu);have N:Hid (∀Y,bg (w.1.size+2) X Y->Aa Y w.1.size (Yh t (b+a) f d p s r m o n z (ed h) B)/\Aa Y (w.1.size+1) z12):=λY J=>⟨Aa.same g (J.block _ Yv),Aa.same i (J.block _ Yv)⟩;have L:=Yw G;have HR:=Yw j;have zA:=Yw (y.ag (H.A y.size Yu));have l:=Yw (Int.not_lt.1 hbig);have c:bg X.1.size X (X.alloc (bs #[] 112)):=Zy;have K:Hid (ej (X.alloc (bs #[] 112)) (w.1.size+2) 112 3 (Yz X.1.size 0 0) 0 []):=ownsRow_lit (base:=w.1.size+2) (e:=112) (size:=3) X #[] 0 C Yo rfl;have J:Hid (bg (w.1.size+2) X (X.alloc (bs #[] 112))):=c.ah C;obtain⟨O,k⟩:=A 1 _ rfl;clear u G M A I g i j y c H;delta D4;go_in;go_upto_region 1 with fail;rw[<-F.o];clear F;go_upto_region 4 with fail;rw[<-L.o];clear L O k;go_wp2;go_loopw [5,6] (λv i wr=>∃(k g c:Nat),k<=ed h/\i=Zg k/\v=Yz g (ed (AQ (h.take k) (b+a))) c/\Hid (ej wr (w.1.size+2) 112 3 (Yz g (ed (AQ (h.take k) (b+a))) c) (ed (AQ (h.take k) (b+a))) (Af lC (AQ (h.take k) (b+a)))/\bg (w.1.size+2) X wr)) (λ_ i _=>ed h -(intOf i).toNat)
 case atStart=>exact⟨0,X.1.size,0,Aw _,rfl,by simp[AQ],⟨by simpa [AQ,Af]using K.o,J⟩⟩
 clear K J;obtain⟨k,g,c,hk,rfl,rfl,j⟩:=hrel;obtain⟨y,K,v0,v1,v2,v3,v4,v5,v6,v7⟩:=zA.ag (j.2.ah Yv),Zm C j.2.size,Cq (N _ j.2).1;by_cases hlt:k<ed h
 case neg=>
  obtain rfl:k=ed h:=Yv;have hO:=j.1;rw[Zt (Zx)]at hO |-;obtain⟨J,H,⟨⟨Q,q0⟩,⟨R,q1⟩,⟨S,q2⟩,⟨T,q3⟩,⟨U,q4⟩,⟨Z,q5⟩,⟨y6,q6⟩,⟨y7,q7⟩,⟨y8,q8⟩,⟨y9,q9⟩,⟨D,zI⟩,E,zJ⟩,e⟩:=Yw hO,Yw y,Br (N _ j.2).2,((N _ j.2).1 6 _ rfl).2;clear hO y j;go_wp2;refine Co (ca #[Ze,Zg t,Zg (b+a),Zg f,Zg d,Cx p s r,Cx m o n,Yz g (ed (AQ h (b+a))) c,Zc,Ze,Zc,Zc]) It ?_;have j:=(Tn.set (V:=[w.1.size,w.1.size+1]) wr w.1.size 6 (Yz g (ed (AQ h (b+a))) c) Yu).ag (Tn.ah (Bw (el wr (Zd (w.1.size) 6) (Yz g (ed (AQ h (b+a))) c)) (w.1.size+1) Ze (Zg t) (Zg (b+a)) (Zg f) (Zg d) (Cx p s r) (Cx m o n) (Yz g (ed (AQ h (b+a))) c) Zc Ze Zc Zc) Yu);exact⟨H.ag (j.A H.size (by intro v P;simp at P;omega)),ct ⟨l,g,c,rfl,(Ar J (λq F=>j.block q (Ab J F).2 (by have:=(Ab J F).1;simp;omega))).ah Yv⟩⟩
 obtain⟨b',zP,ha,hb,u⟩:=(Ba.A HR y).at hlt;subst ha;have M:=Yw (Zv hlt);obtain⟨c0,O,c2⟩:=u k _ M;have I:=Yw (TE (b+a) M);have zM:ed (AQ (h.take k) (b+a))<=1000:=by have:=length_filter_le (λx:Ld=> !bq (x.ci<=(b+a))) (h.take k);unfold AQ;rw[Cl]at this;omega
 have zK:b'<wr.1.size:=C8 y.size;have zN:(k:Int)<ed h:=Yv;clear u;generalize h[k]=x at *
 generalize hGk:AQ (h.take k) (b+a)=gk at *
 clear hGk;by_cases hxn:x.ci<=(b+a)
 .have F:bq ((b+a)<x.ci)=ba:=Yt;have A:Hid (AQ (h.take (k+1)) (b+a)=gk):=by show _=_;rw[I.o,if_pos hxn,append_nil]
  clear hxn;have G:Hid (ej wr.drew (w.1.size+2) 112 3 (Yz g (ed gk) c) (ed gk) (Af lC gk)/\bg (w.1.size+2) X wr.drew):=⟨Ai j.1 (Ae.drew),j.2.drew⟩;clear j;go_upto_region 8 with fail;go_region_with fail
  all_goals
   go_wp2;exact⟨⟨k+1,g,c,Yv,Yn,by rw[A.o],⟨by rw[A.o];exact G.1,G.2⟩⟩,Ys⟩
 have F:bq ((b+a)<x.ci)=ay:=Yt;have A:Hid (AQ (h.take (k+1)) (b+a)=gk++[x]):=by show _=_;rw[I.o,if_neg hxn]
 clear hxn;obtain⟨Y,u,w8,zF,J,H,zB⟩:=Po wr.drew (w.1.size+2) _ gk (Ai j.1 (Ae.drew)) x Yv K 28;have i:=Ae.grown H K (λq e=>(Ab j.1 e).1);have L:Hid (ej w8 (w.1.size+2) 112 3 (Yz Y (ed gk+1) u) (ed (gk++[x])) (Af lC (gk++[x]))/\bg (w.1.size+2) X w8):=⟨J,j.2.drew.ag i⟩;clear J H zB i j;go_upto_region 8 with fail;go_region_with fail
 all_goals
  go_wp2_with (at_builtin;first|(refine wpList_append_run rfl _ _ 28 28 rfl rfl rfl zF ?_));go_wp2;exact⟨⟨k+1,Y,u,Yv,Yn,by rw[A.o,Am];rfl,⟨by rw[A.o,Am];exact Am▸L.1,L.2⟩⟩,Ys⟩
theorem Rp{c:Zh}{e:List (Kd×Value)}(h:BO w b d e)(a:c.1[b]?=w.1[b]?)(m:∀z∈e,∃f g,z.2=Cx (ai f) (ed z.1.C) g/\Ad c c.1.size (ai f) z.1.C):BO c b d e:=by intro i z f;have⟨⟨g,j,k,l⟩,_⟩:=h i z f;exact⟨⟨(cell?_of_block a).ag g,(cell?_of_block a).ag j,(cell?_of_block a).ag k,(cell?_of_block a).ag l⟩,m z (Zs f)⟩
theorem Ad.O{d:Zh}{a:Zk}(h:Ad w w.1.size a f)(e:Tn V w d)(j:∀p,a=ai p->p.block<w.1.size->p.block∉V):Ad d d.1.size a f:=by
 rcases h with h|⟨b,g,rfl,c,k⟩
 .exact cr h
 exact ct ⟨b,g,rfl,Zr c e.size,λi s l=>(cell?_of_block (e.block b c (j _ rfl c))).ag (k i s l)⟩
theorem Bd.O{d:Zh}{a:Zk}{k:C7}(h:Bd w w.1.size a k)(j:Tn V w d)(m:∀p,a=ai p->p.block<w.1.size->p.block∉V):Bd d d.1.size a k:=by
 rcases h with h|⟨b,l,rfl,c,e⟩
 .exact cr h
 have f:=j.block b c (m _ rfl c);exact ct ⟨b,l,rfl,Zr c j.size,λi s g=>⟨(cell?_of_block f).ag (e i s g).1,(cell?_of_block f).ag (e i s g).2⟩⟩
theorem Ba.O{g:Zh}{a:Zk}{k:C6}(h:Ba w w.1.size a k)(j:Tn V w g)(m:∀p,a=ai p->p.block<w.1.size->p.block∉V):Ba g g.1.size a k:=by
 rcases h with h|⟨b,l,rfl,c,d⟩
 .exact cr h
 have e:=j.block b c (m _ rfl c);exact ct ⟨b,l,rfl,Zr c j.size,λi s f=>⟨(cell?_of_block e).ag (d i s f).1,(cell?_of_block e).ag (d i s f).2.1,(cell?_of_block e).ag (d i s f).2.2⟩⟩
theorem Vx{i:Nat}{O:Dg}{r b:Int}{s:C5}{q:C7}{k:C6}{ph A:Int}{t:Nat}{C v x u:Zl}(h:CM w i B c d m O P L r o b a s q k ph I A y Q M D t C v x u)(hp:ed q<=100)(hl:ed k<=200)(zA:∀p∈q,(p.sum.size:Int)=r)(Z:∀l∈k,(l.sum.size:Int)=r)(h8:r<=8)(zB:0<=a)(zC:a<=1000000000):
 D4 116 #[Yy c] w λe j=>e=C1 (.tuple #[])/\∃V,CM j i B c d m O P L r o b a s q k 1 a (a+1) y V M D t (DK q k) v x u/\bg B w j:=by
 have⟨W,E⟩:=D2 w c 1 (Zg 1);have j:CM W i B c d m O P L r o b a s q k 1 I A y Q M D t C v x u:=by rw[E];exact h.put 1 (Zg 1) rfl h.q h.mr h.dd h.ap
 have S:bg B w W:=by rw[E];exact Ae.setCell (C9 h.bc) _
 obtain⟨⟨T,J⟩,⟨N,_⟩,⟨X,K⟩,f,R⟩:=h.box 1 _ rfl,j.box 0 _ rfl,j.box 4 _ rfl,j.box 5 _ rfl;obtain⟨G,_⟩:=j.R.box 4 _ rfl;have Y:¬d=c:=λe=>by have:=j.db.1 d Ja;have:=j.bc;omega
 have p:¬c=d:=λe=>Y e.symm;obtain⟨H,z,F,zE,zF⟩:=h.bc,Yw j,Yw E,j.box.lt,j.R.box.lt;clear E h j;delta D4;go_in;go_upto_region 1 with fail;rw[<-F.o];clear F T J;go_cut [] (λj=>Hid (CM j i B c d m O P L r o b a s q k 1 a (a+1) y Q M D t C v x u/\bg B W j))
 case first=>
  go_region
  all_goals
   go_wp2_with fail;go_meet;have F:CM (el W (Zd c 4) (Zg a)) i B c d m O P L r o b a s q k 1 a A y Q M D t C v x u:=z.put 4 (Zg a) rfl z.q z.mr z.dd z.ap;have l:CM (el (el W (Zd c 4) (Zg a)) (Zd c 5) (Zg (a+1))) i B c d m O P L r o b a s q k 1 a (a+1) y Q M D t C v x u:=F.put 5 (Zg (a+1)) rfl F.q F.mr F.dd F.ap;exact⟨l.A Ae.drew,((Ae.setCell (C9 H) _).setCell (C9 H) _).drew⟩
 revert wc;intro U j;clear N X K f R G z;obtain⟨N,_⟩:=j.1.box 0 _ rfl;go_wp2_with fail;refine(Qy j.1.R hp hl zA Z h8).ah ?_;rintro e X ⟨V,rfl,J,G⟩;have z:=j.1.A G;have dm:=j.1.lo;have K:Is c t (Aj V) (Aj M) (Aj D):=by have⟨n,cc,f,h,_⟩:=j.1.gp;exact z.ap.jk (n:=U.1.size) (λg E=> ct (J.S E).1) j.1.box.lt h.lt (λg E=>(j.1.mr.S E).2) (λg E=>(j.1.dd.S E).2)
 have T:CM (el X (Zd c 2) V) i B c d m O P L r o b a s q k 1 a (a+1) y V M D t (DK q k) v x u:=z.put 2 V rfl (J.ah dm) z.mr z.dd K;have R:bg B w (el X (Zd c 2) V):=((S.ag j.2).ag (G.ah dm)).setCell (C9 H) _;obtain⟨va,vc,rfl,_⟩:=J.row;obtain⟨q2,g⟩:=z.box 2 _ rfl;have E:=Yw (Zn T R);clear z T R K J G N j S;go_wp2;exact⟨rfl,_,results_none rfl _ _ _,rfl,_,E.1,E.2⟩
theorem Pa{t:Nat}{O:Dg}{l:Int}{G:C5}{U:C7}{S:C6}{C A:Int}{z:Nat}(s:Zi)(p:Zl)(h:CM w t B c d m O P L y E l a G U S H C A I Q M D z (s::p) ms ms R)(N:∀k∈G,(k.sum.size:Int)=y/\ed k.C<=30/\∀r∈k.C,(r.size:Int)=y)(V:∀x∈ms,(x.size:Int)=y)(hs:(s.size:Int)=y)(h8:y<=8)(xP:ed p<=1048576)(xO:ed ms<=1048576):
 D4 117 #[Yy c] w λe J=>e=C1 (.tuple #[])/\∃T K F v,CM J t B c d m O P L y E l a G U S H C A I T K D z F v v R/\KJ G s p ms F v/\bg B w J:=by
 obtain⟨g,K,v,T,rfl,xM,b,hn,xH,o⟩:∃g K v T,Q=Cx (ai ⟨g,K,an⟩) (ed p+1) v/\((if v=1 then ai ⟨g,K,an⟩else ai ⟨g,K+1,an⟩:Zk)=ai ⟨g,T,an⟩)/\Ah w B (Cw (ai ⟨g,T,an⟩) p (v -1)) p/\ed p+1<=v/\v<=maxLen/\eh w (Zd g K)=ai (C0 s):=by
  have hq:=h.q;rcases h.q with⟨_,e⟩|⟨g,K,v,rfl,yW,yY,xB,hc,_⟩
  .cases e
  obtain⟨h1,_,h3,h4⟩:=hq.tail;by_cases h1c:v=1
  .subst h1c;simp only[length_cons]at xB;have:p=[]:=A9 Yv;subst this;exact⟨g,K,1,K,rfl,rfl,ct ⟨g,K,0,rfl,yW,yY,Zx,Yv,(λj F=>Yv),(λi s hs=>by simp at hs)⟩,h3,hc,h4⟩
  exact⟨g,K,v,K+1,rfl,if_neg h1c,h1,h3,hc,h4⟩
 have⟨W,J⟩:=D2 w c 2 (Cw (ai ⟨g,T,an⟩) p (v -1));have F:CM W t B c d m O P L y E l a G U S H C A I (Cw (ai ⟨g,T,an⟩) p (v -1)) M D z p ms ms R:=by rw[J];exact h.put 2 _ rfl b h.mr h.dd h.ap
 have bW:bg B w W:=by rw[J];exact Ae.setCell (C9 h.bc) _
 obtain⟨⟨q2,f2⟩,⟨q0,_⟩,⟨d0,_⟩,⟨d1,_⟩,xJ,HC,Z,xK,yD⟩:=h.box 2 _ rfl,F.box 0 _ rfl,F.R.box 0 _ rfl,F.R.box 1 _ rfl,h.bc,Yw F,Yw J,F.box.lt,F.R.box.lt;have yK:Hid (∀g,Aj M=ai g->g<W.1.size):=λg f=>(F.mr.S f).2;have xI:z<W.1.size:=by have⟨n,cc,f,hM,_⟩:=F.gp;exact hM.lt
 have zP:=Yw N;have zS:=Yw V;clear J h F b N V;delta D4;go_in;go_upto_region 2 with fail;rw[<-Z.o];clear Z q2 f2 o;by_cases hth:As G s
 case neg=>
  obtain⟨n1,f,xC,hM,hH⟩:=HC.hu;have Z:f (keyL s)=an:=by
   rcases hH s hs with⟨h,_⟩|⟨u,_,_,hu,zG,_⟩
   .exact h
   exact absurd ⟨u,hu,zG⟩ hth
  have F:=FR y f s hM hs ⟨#[]⟩ 0 ⟨#[]⟩ Zb ba ⟨_,_,_,rfl⟩ (by rw[Z];rfl) (by rw[Z];rfl);clear hM hH Z;go_wp2_with fail;refine Calls.mono F ?_;rintro e J ⟨rfl,N⟩;have V:Hid (∀o,CM (J.alloc o) t B c d m O P L y E l a G U S H C A I (Cw (ai ⟨g,T,an⟩) p (v -1)) M D z p ms ms R/\bg B w (J.alloc o)):=λo=>
   ⟨HC.A (N.alloc N.size o),bW.ag ((N.alloc N.size o).ah HC.lo)⟩
  clear N HC bW F q0 d0 d1 yD;go_wp2;refine bodyPost_ret (results_none rfl _ _ _) rfl ?_;exact⟨rfl,_,_,p,ms,(V _).1,cr ⟨cr hth,rfl,rfl⟩,(V _).2⟩
 obtain⟨n1,f,xC,hM,hH⟩:=HC.hu;rcases hH s hs with⟨_,xD⟩|⟨u,ra,rc,hu,zG,N,J⟩
 .exact absurd hth xD
 have F:=FR y f s hM hs u.sum u.born u.Q (Cw ra u.C rc) ay ⟨_,_,_,rfl⟩ (by rw[N];rfl) (by rw[N];rfl);have o:Hid (Ad W B ra u.C):=J;have zC:Hid (u∈G/\u.sum=s):=⟨hu,zG⟩;clear hM hH N J hu zG;go_wp2_with fail;refine Calls.mono F ?_;rintro e J ⟨rfl,N⟩;have⟨W2,b⟩:=Du J #[C0 u.sum,Zg u.born,C0 u.Q,Cw ra u.C rc] 50;have b2:bg J.1.size J W2:=by rw[b];exact Zy
 have X:Aa W2 J.1.size [C0 u.sum,Zg u.born,C0 u.Q,Cw ra u.C rc]:=by rw[b];exact Aa.new J _ _
 have Z:bg W.1.size W W2:=N.ag (b2.ah N.size);have V:Hid (CM W2 t B c d m O P L y E l a G U S H C A I (Cw (ai ⟨g,T,an⟩) p (v -1)) M D z p ms ms R):=HC.A Z;have zT:Hid (Ad W2 B ra u.C):=Ad.A o (Z.ah HC.lo);have zY:bg B w W2:=bW.ag (Z.ah HC.lo);have j:=Yw b;have zW:=Yw X;have xN:W.1.size<=J.1.size:=N.size;clear b b2 X Z N HC o bW F q0 d0 d1 yD;go_upto_region 3 with fail;rw[<-j.o];clear j;have X:Hid (∃n cc f,AW W2 160 z n cc f/\MK ms f cc/\n<=ed ms):=V.gp;have⟨nk,cc,fk,j,Z,yG⟩:=X.o;go_wp2_with fail;refine Calls.mono (Gg d H C A I (Cw (ai ⟨g,T,an⟩) p (v -1)) M D fk y s V.box j Z zS hs h8) ?_;rintro e w3 ⟨b,rfl,hb,o⟩;have Y:Hid (CM w3 t B c d m O P L y E l a G U S H C A I (Cw (ai ⟨g,T,an⟩) p (v -1)) M D z p ms ms R):=V.A o;have zZ:bg B w w3:=zY.ag (o.ah V.lo);have zU:Hid (Ad w3 B ra u.C):=Ad.A zT (o.ah V.lo);have zH:Hid (Aa w3 J.1.size [C0 u.sum,Zg u.born,C0 u.Q,Cw ra u.C rc]):=Aa.A zW o;have Hb:Hid (b=ay↔s∈ms):=hb;clear j Z yG X hb o V zT zW zY
 cases b with
 |true=>have yN:Hid (s∈ms):=Hb.1 rfl;go_wp2;refine bodyPost_ret (results_none rfl _ _ _) rfl ?_;exact⟨rfl,_,_,p,ms,Y,cr ⟨ct yN,rfl,rfl⟩,zZ⟩
 |false=>
  have yO:Hid (s∉ms):=λe=>by have:=Hb.2 e;cases this
  clear Hb;have⟨va,vc,yR,_⟩:=Y.mr.row;subst yR;have HP:=Y.pushM s Yv;obtain⟨a',zA,w5,hr,c3,f3,zI,zJ,zF⟩:=HP;have⟨X,hX⟩:=D2 w5 c 3 (Cx a' (ed ms+1) zA);rw[<-hX]at zI zJ zF;obtain⟨q3,_⟩:=Y.box 3 _ rfl;have xA:J.1.size<w3.1.size:=Aa.lt zH;have yZ:¬J.1.size=c:=Yv;have yV:bg B w X:=zZ.ag zF;have zV:Hid (Ad X B ra u.C):=Ad.A zU zF;have o:=Yw zI;have HX:=Yw hX;have zX:Hid (Aa X J.1.size [C0 u.sum,Zg u.born,C0 u.Q,Cw ra u.C rc]):=Aa.same zH (zJ.block _ xA (λe=>by
   rcases Bh.1 e with e|e
   .exact yZ e
   have:=yK _ (C9 e);omega))
  have yM:Hid (∀X',bg B X X'->Ad X' B ra u.C):=λX' yT=>Ad.A zV yT;clear hX zI zJ zF Y zU zH zV;go_wp2_with (first
   |(at_builtin;refine wpList_append_run rfl _ _ 23 23 rfl rfl rfl hr ?_)
   |go_in)
  clear hr q3;go_upto_region 5 with fail;rw[<-HX.o];clear HX c3 f3;have zB:Hid (∀Y,Zz X Y->eh Y (Zd c 7)=ai (.map (ai z))):=λY hY=>((o.box.A hY) 7 _ rfl).1;have D0:bg X.1.size X X.drew:=Ae.drew;have⟨nk,cc,fk,j,Z,yG⟩:=o.gp;have⟨nn,yI,yF,yH,_⟩:=Z.get (keyL s);have xE:IntKind.i64.wrap (nn+1)=nn+1:=Hv Yv Yv;have HK:Hid (AW X 160 z nk cc fk/\MK ms fk cc):=⟨j,Z⟩;obtain⟨yX,zK,yE⟩:=o.box.lt,o.ap.cm,j.lt;clear j Z;go_cut [] (λwx=>Hid (CM wx t B c d m O P L y E l a G U S H C A I (Cw (ai ⟨g,T,an⟩) p (v -1)) (Cx a' (ed ms+1) zA) D z p (ms++[s]) (ms++[s]) R/\Aa wx J.1.size [C0 u.sum,Zg u.born,C0 u.Q,Cw ra u.C rc]/\bg B X wx))
  case first=>
   go_region_held3 (λY=>eh Y (Zd c 7)=ai (.map (ai z)))
    (first|with_reducible exact zB.o _ D0|with_reducible exact zB.o _ Y|exact yA|exact yB)
    (first
      |(go_at_call 132;refine(FP s X.drew).ah ?_;rintro e w6 ⟨rfl,yU⟩;have Y:bg X.1.size X w6:=D0.ag (yU.ah D0.size);have⟨st,w7,w8,he,hl1,hl3,hs4,hm4,hg3,hg4⟩:=(HK.1.ak Y yE).iu keyed underlying137 Yo Hm (CW s) (Zg (nn+1));rw[yI]at he hl1 hl3;unfold goInt at he hs4;have yA:eh w7 (Zd c 7)=ai (.map (ai z)):=hg3.cell (zB _ Y) (C9 zK);have yB:eh w8 (Zd c 7)=ai (.map (ai z)):=hg4.cell (zB _ Y) (C9 zK)))
   all_goals
    have g8:ek X w8 (ai z):=(Al _ Y).ag hg4;have HF:Hid (CM w8 t B c d m O P L y E l a G U S H C A I (Cw (ai ⟨g,T,an⟩) p (v -1)) (Cx a' (ed ms+1) zA) D z p (ms++[s]) (ms++[s]) R/\Aa w8 J.1.size [C0 u.sum,Zg u.born,C0 u.Q,Cw ra u.C rc]/\bg B X w8):=
     ⟨o.bumped g8 hm4 (HK.2.snoc s yF yH) Yt,Aa.az zX g8 Yv,Ae.grown g8 o.lo (λq e=>by cases e;exact o.bm)⟩
    clear hm4 he hl1 hl3 hs4 hg3 hg4 yA yB Y g8;go_wp2_with fail;go_meet;exact HF
  case rest=>
  revert wc;intro w9 Y;clear zB D0 HK xE yI yF yH yX zK yE o zX;obtain⟨r3,_⟩:=Y.2.1 3 _ rfl;have zN:=Yw Y.1;have o:Hid (bg B X w9):=Y.2.2;have xQ:ed u.C<=30:=(zP u zC.1).2.1;have yL:Hid (∀r∈u.C,(r.size:Int)=y):=(zP u zC.1).2.2;have zM:Hid (∀x∈ms++[s],(x.size:Int)=y):=λx hx=>by
   rcases A5.1 hx with hx|hx
   .exact zS x hx
   simp at hx;rw[hx];exact hs
  clear Y;go_wp2;go_loopw [69] (λi wr=>∃(k:Nat) (Qk:Dg),k<=ed u.C/\i=Zg k/\Hid (CM wr t B c d m O P L y E l a G U S H C A I Qk (Cx a' (ed ms+1) zA) D z (p++fresh (ms++[s]) (u.C.take k)) (ms++[s]) (ms++[s]) R/\bg B X wr)) (λi _=>ed u.C -(intOf i).toNat)
  case atStart=>exact⟨0,_,Aw _,rfl,by simpa [fresh]using zN.o,o⟩
  clear zN o r3;obtain⟨k,Qk,hk,rfl,r⟩:=hrel;by_cases hlt:k<ed u.C
  case neg=>
   obtain rfl:k=ed u.C:=Yv;have Z:=r.1;rw[Zt (Zx)]at Z;have HE:=Yw Z;clear Z;go_wp2;exact⟨rfl,_,results_none rfl _ _ _,rfl,_,_,_,_,HE,ct ⟨u,zC.1,zC.2,yO,rfl,rfl⟩,yV.ag r.2⟩
  obtain⟨b,xR,ha,hb,hc⟩:=(yM _ r.2).at hlt;subst ha;have HG:Hid (u.C[k]?=ai u.C[k]):=Zv hlt;have c0:=hc k _ HG;have xF:(u.C[k].size:Int)=y:=yL _ (getElem_mem hlt);have zO:=Yw (Tw (ms:=ms++[s]) HG);have xL:ed (p++fresh (ms++[s]) (u.C.take k))<=1048606:=by have:ed (fresh (ms++[s]) (u.C.take k))<=ed (u.C.take k):=length_filter_le _ _;simp at this |-;omega
  clear hc;generalize u.C[k]=x at *
  generalize hO:p++fresh (ms++[s]) (u.C.take k)=qk at *
  have HO:=Yw hO;clear hO;have⟨xG,yP,yQ,j,Z,_⟩:=r.1.gp;go_wp2_with fail;refine Calls.mono (Gg d H C A I Qk (Cx a' (ed ms+1) zA) D yQ y x r.1.box j Z zM xF h8) ?_;rintro e yJ ⟨b2,rfl,yC,o⟩;have i:Hid (CM yJ t B c d m O P L y E l a G U S H C A I Qk (Cx a' (ed ms+1) zA) D z qk (ms++[s]) (ms++[s]) R):=r.1.A o
  have Y:bg B X yJ:=r.2.ag (o.ah r.1.lo);have zE:Hid (b2=ay↔x∈ms++[s]):=yC;clear j Z yC o c0 r;cases b2 with
  |true=>
   have HE:Hid (p++fresh (ms++[s]) (u.C.take (k+1))=qk):=by show _=_;rw[zO.1 (zE.1 rfl)];exact HO.o
   clear zE;go_wp2;exact⟨⟨k+1,Qk,Yv,Yn,⟨by rw[HE.o];exact i.o,Y⟩⟩,Ys⟩
  |false=>
   have HE:Hid (p++fresh (ms++[s]) (u.C.take (k+1))=qk++[x]):=by show _=_;rw[zO.2 (λe=>by have:=zE.2 e;cases this),<-append_assoc,HO.o]
   clear zE;have⟨ka,kc,yS,_⟩:=i.q.row;subst yS;have⟨a2,c2,xS,hr,g2,f2,j,_,Z⟩:=i.pushQ x Yv;obtain⟨q2,_⟩:=i.box 2 _ rfl;have q:=Yw (Zn j (Y.ag Z));clear j Z;go_wp2_with (first
    |(at_builtin;refine wpList_append_run rfl _ _ 23 23 rfl rfl rfl hr ?_)
    |go_in)
   clear hr q2;go_wp2;exact⟨⟨k+1,_,Yv,Yn,⟨by rw[HE.o];exact q.1,q.2⟩⟩,Ys⟩
