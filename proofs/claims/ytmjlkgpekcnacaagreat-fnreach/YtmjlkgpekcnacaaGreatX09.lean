import Derived.Test.YtmjlkgpekcnacaaGreatX08
import Derived.Test.YtmjlkgpekcnacaaGreatX05
import Derived.Deep.MidRow
import Derived.Laws.ResultCell
set_option maxRecDepth 100000
set_option maxHeartbeats 16000000
namespace Go.Proofs.YtmjlkgpekcnacaaGreat
open Go.ChangeShapes Go.WideShapes Go.ChangeAt Go.RowKit _root_.Go.Proofs.Tryz
variable{s T P L Q t v u S U:Value}{a:Int}{w j e c X:Zh}{base g b n m i B N base' off cap:Nat}{d rs f l q:Zj}{x:Zi}{r:Rs}{k:List Ld}{V:List Nat}{p:Tmp}{ks:List Kd}
theorem GQ{s:Zi}(h:(Bi s a).ok=true):Ci (Bi s a).k (Bi s a).sum (Bi s a).name (Bi s a).n (Bi s a).t (Bi s a).ss a=true/\CI (Bi s a).k (Bi s a).sum (Bi s a).name (Bi s a).n (Bi s a).t (Bi s a).ss a=s:=by
 by_cases hw:1<=a/\a<=8
 .obtain⟨b,c⟩:=hw;obtain⟨l,rfl⟩:∃l,s=AF l:=⟨s.data.toList,rfl⟩;by_cases h6:l.length<6
  .rw[My b c h6]at h;cases h
  .match l,h6,h with
   |a0::a1::a2::a3::a4::a5::T,h6,h=>
    by_cases hT:a5.toNat<=T.length
    .rw[Mw a0 a1 a2 a3 a4 a5 T b c hT]at h |-;split at h
     case isTrue hc=>
      rw[if_pos hc];unfold NF at hc;rw[Bool.and_eq_true,decide_eq_true_eq]at hc;exact hc
     case isFalse hc=>cases h
    .rw[NH b c Yv]at h;cases h
   |[],h6,_=>simp at h6
   |[_],h6,_=>simp at h6
   |[_,_],h6,_=>simp at h6
   |[_,_,_],h6,_=>simp at h6
   |[_,_,_,_],h6,_=>simp at h6
   |[_,_,_,_,_],h6,_=>simp at h6
 .rw[Mx hw]at h;cases h
section
attribute [local go_sem↓] Go.wp_at_zero Go.wp_at_succ
end
def Vz(ks:List Kd)(ps:List Pd)(ls:List Ld):Nat:=ks.length *3+EZ ks+ps.length *2+ls.length *3
theorem SI.same{g:List Kd}(h:SI w base T d g)(f:∀b,b<w.heap.size->b∈T.ownBlock.toList++d.filterMap Value.ownBlock->j.heap[b]?=w.heap[b]?):SI j base T d g:=
 ⟨h.len,As h.aj (fun b a=>f b (Ad h.aj a).2 (by simp[a])),fun i k r e c=>As (h.B i k r e c) (fun b a=>f b (Ad (h.B i k r e c) a).2 (List.mem_append_right _ (List.mem_filterMap.2 ⟨r,Zs c,a⟩))),h.nd⟩
theorem AY.below{b:List Kd}{d:List Pd}{c:List Ld}(h:AY w base T P L rs b d c)(a:Zz w e):AY e base T P L rs b d c:=
 ⟨h.len,Ap h.aj a,fun i k r f g=>Ap (h.B i k r f g) a,Ap h.pins a,Ap h.aq a,h.nd⟩
theorem Qm(w:Zh)(a:Nat):AY w a Zb Zb Zb [] [] [] []:=
 ⟨rfl,⟨rfl,.inl ⟨rfl,rfl⟩⟩,fun i k r b=>(by simp at b),⟨rfl,.inl ⟨rfl,rfl⟩⟩,⟨rfl,.inl ⟨rfl,rfl⟩⟩,List.nodup_nil⟩
structure An where
 code:Int
 wd:Int
 D:Int
 G:Int
 C:Int
 le:Int
 sm:Zi
 a:Zi
 b:Zi
 ks:List Kd
 ps:List Pd
 ls:List Ld
def r0:Rs:=⟨⟨#[]⟩,0,0,0,0,[],[],[]⟩
def JZ(wd:Int)(r:Rs)(x:Zi)(r':Rs):Prop:=(Bi x wd).ok=true/\Ep wd r.D r.G r.C r.ks r.ps r.ls (Bi x wd).k (Bi x wd).sum (Bi x wd).name (Bi x wd).n (Bi x wd).t (Bi x wd).ss r'
def Wv(wd:Int)(r:Rs)(x:Zi):Prop:=(Bi x wd).ok=false\/∃c a b,FW wd r.D r.G r.C r.ks r.ps r.ls (Bi x wd).k (Bi x wd).sum (Bi x wd).name (Bi x wd).n (Bi x wd).t (Bi x wd).ss c a b
def CJ(wd:Int):Rs->Zl->Rs->Prop
 |r,[],r'=>r'=r
 |r,x::xs,r'=>∃r1,JZ wd r x r1/\CJ wd r1 xs r'
def Fe(wd:Int)(xs:Zl)(n:Nat):Prop:=∃k r x,n=k+1/\xs[k]?=some x/\CJ wd r0 (xs.take k) r/\Wv wd r x
def Rs.ok(wd:Int)(r:Rs):Prop:=Gu wd r.D r.G r.C r.ks r.ps r.ls
theorem CJ.snoc{c:Int}{a b:Rs}(d:JZ c a x b):∀{xs:Zl} {r:Rs},CJ c r xs a->CJ c r (xs++[x]) b
 |[],r,h=>by obtain rfl:a=r:=h;exact⟨b,d,rfl⟩
 |y::ys,r,h=>by obtain⟨g,e,f⟩:=h;exact⟨g,e,CJ.snoc d f⟩
theorem JZ.co{c:Int}{a b:Rs}(h:JZ c r x a)(k:JZ c r x b):a=b:=h.2.co k.2
theorem JZ.ok{b:Rs}(h:JZ a r x b)(c:r.ok a):b.ok a:=Gu.step c (GQ h.1).1 h.2
theorem JZ.not{d:Int}{g:Rs}(h:JZ d r x g)(f:r.ok d):¬Wv d r x:=by
 rintro(e|⟨c,a,b,e⟩)
 .rw[h.1]at e;cases e
 .exact e.not f.cf.nd h.2
theorem CJ.co{e:Int}:∀{xs:Zl} {r a b:Rs},CJ e r xs a->CJ e r xs b->a=b
 |[],r,a,b,h,k=>by have c:=h;have d:=k;rw[c,d]
 |x::xs,r,a,b,h,k=>by obtain⟨i,c,d⟩:=h;obtain⟨j,f,g⟩:=k;obtain rfl:=c.co f;exact CJ.co d g
theorem CJ.ok:∀{xs:Zl} {r r':Rs},CJ a r xs r'->r.ok a->r'.ok a
 |[],r,r',h,hr=>by obtain rfl:r'=r:=h;exact hr
 |x::xs,r,r',h,hr=>by obtain⟨d,b,c⟩:=h;exact CJ.ok c (b.ok hr)
theorem CJ.at{wd:Int}:∀{xs:Zl} {r r':Rs},CJ wd r xs r'->∀{k:Nat} {x:Zi},xs[k]?=some x->∃a b,CJ wd r (xs.take k) a/\JZ wd a x b
 |[],r,r',h,k,x,hx=>by simp at hx
 |y::ys,r,r',h,k,x,hx=>by
  obtain⟨d,c,e⟩:=h;cases k with
  |zero=>simp at hx;subst hx;exact⟨r,d,rfl,c⟩
  |succ k=>obtain⟨a,b,f,g⟩:=CJ.at e (k:=k) (x:=x) (by simpa using hx);exact⟨a,b,⟨d,c,f⟩,g⟩
theorem Ff(b:1<=a)(c:a<=8):r0.ok a:=Gu.zero b c
theorem Fe.not{c:Zl}(d:1<=a)(i:a<=8)(h:Fe a c n):¬CJ a r0 c r:=fun j=>by obtain⟨k,m,x,rfl,l,b,e⟩:=h;obtain⟨o,q,f,g⟩:=j.at l;obtain rfl:=b.co f;exact g.not (b.ok (Ff d i)) e
theorem Fe.le{d:Zl}(f:1<=a)(o:a<=8)(h:Fe a d n)(k:Fe a d m):m<=n:=by
 obtain⟨i,v,x,rfl,q,b,g⟩:=h;obtain⟨j,z,y,rfl,t,r,u⟩:=k;rcases Nat.lt_or_ge i j with e|s
 .obtain⟨A,B,c,l⟩:=r.at (k:=i) (x:=x) (by rw[List.getElem?_take_of_lt e];exact q);rw[List.take_take,Nat.min_eq_left Yv]at c;obtain rfl:=b.co c;exact absurd g (l.not (b.ok (Ff f o)))
 .omega
theorem Fe.co{d:Zl}(b:1<=a)(c:a<=8)(h:Fe a d n)(k:Fe a d m):n=m:=Nat.le_antisymm (k.le b c h) (h.le b c k)
def Lb(wd:Int)(xs:Zl)(x:An):Prop:=
 (¬((1<=wd/\wd<=8)/\xs.length<=4000)/\x=⟨1,0,0,0,0,0,⟨#[]⟩,⟨#[]⟩,⟨#[]⟩,[],[],[]⟩)\/
 (((1<=wd/\wd<=8)/\xs.length<=4000)/\(
   (∃n:Nat,Fe wd xs n/\x=⟨7,0,0,0,0,n,⟨#[]⟩,⟨#[]⟩,⟨#[]⟩,[],[],[]⟩)\/
   (∃r,CJ wd r0 xs r/\x=⟨0,wd,r.D,r.G,r.C,0,⟨#[]⟩,⟨#[]⟩,⟨#[]⟩,r.ks,r.ps,r.ls⟩)))
theorem Lb.co{b:Int}{c:Zl}{x y:An}(h:Lb b c x)(k:Lb b c y):x=y:=by
 rcases h with⟨d,rfl⟩|⟨a,h⟩<;>rcases k with⟨n2,rfl⟩|⟨g2,k⟩
 .rfl
 .exact absurd g2 d
 .exact absurd a n2
 .rcases h with⟨n,h,rfl⟩|⟨r,h,rfl⟩<;>rcases k with⟨m,k,rfl⟩|⟨q,k,rfl⟩
  .obtain rfl:=h.co a.1.1 a.1.2 k;rfl
  .exact absurd k (h.not a.1.1 a.1.2)
  .exact absurd h (k.not a.1.1 a.1.2)
  .obtain rfl:=h.co k;rfl
def BP(w:Zh)(b:Nat)(ph:Int)(Q M:Value)(top at_ ro:Int):Prop:=
 w.cell? ⟨b,0,none⟩=some (.int .i64 ph)/\w.cell? ⟨b,1,none⟩=some Q/\w.cell? ⟨b,2,none⟩=some M/\w.cell? ⟨b,3,none⟩=some (.int .i64 top)/\
  w.cell? ⟨b,4,none⟩=some (.int .i64 at_)/\w.cell? ⟨b,5,none⟩=some (.int .i64 ro)/\b<w.heap.size
theorem BP.new(w:Zh)(c b a d:Int)(Q M:Value)(t:TypeId):BP (w.alloc (.cells #[Zg c,Q,M,Zg b,Zg a,Zg d] t)) w.heap.size c Q M b a d:=
 ⟨Yu,Yu,Yu,Yu,Yu,Yu,Yu⟩
theorem BP.af{i:Zh}{f e d g:Int}{M:Value}(h:BP w b f Q M e d g)(a:Below B w i)(c:b<B):BP i b f Q M e d g:=by
 obtain⟨j,k,l,m,n,o,q⟩:=h;exact⟨(a.cell (p:=⟨b,0,none⟩) c).trans j,(a.cell (p:=⟨b,1,none⟩) c).trans k,(a.cell (p:=⟨b,2,none⟩) c).trans l,(a.cell (p:=⟨b,3,none⟩) c).trans m,
  (a.cell (p:=⟨b,4,none⟩) c).trans n,(a.cell (p:=⟨b,5,none⟩) c).trans o,Zr q a.size⟩
theorem BP.below{f:Zh}{d c e:Int}{M:Value}(h:BP w b d Q M c a e)(g:Zz w f):BP f b d Q M c a e:=h.af g h.2.2.2.2.2.2
structure Qn (qs ms:Zl):Prop where
 q:qs.length<=1048576
 m:ms.length<=1048576
section
attribute [local go_sem↓] Go.wp_at_zero Go.wp_at_succ
end
section
attribute [local go_sem↓] Go.wp_at_zero Go.wp_at_succ
open Classical in
structure RG (wd:Int) (qs ms:Zl):Prop where
 nq:qs.length<=23200
 nm:ms.length<=600
 q:∀s∈qs,(s.size:Int)=wd
 m:∀s∈ms,(s.size:Int)=wd
 nd:ms.Nodup
end
theorem Cj(n lo a:Int)(w:Zh):
 Calls prog 23 #[Zg n,Zg lo,Zg a] w fun e b=>e=.returned (.bool (decide (lo<=n/\n<=a)))/\b=w:=by
 by_cases h1:lo<=n
 .by_cases h2:n<=a
  .go_enter func23,ntmps23;go_wp2;go_ret;exact⟨AH (by simp[h1,h2]),rfl⟩
  .go_enter func23,ntmps23;go_wp2;go_ret;exact⟨AH (by simp[h2]),rfl⟩
 .have c:decide (lo<=n)=false:=by simpa using h1
  go_enter func23,ntmps23;go_wp2;go_ret;exact⟨AH Yu,rfl⟩
theorem Jl(n:Int)(w:Zh):
 Calls prog 53 #[Zg n] w fun e a=>e=.returned (.bool (decide (0<=n/\n<=1000000000)))/\a=w:=by
 by_cases h1:0<=n
 .by_cases h2:n<=1000000000
  .go_enter func53,ntmps53;go_wp2;go_ret;exact⟨AH (by simp[h1,h2]),rfl⟩
  .have c:decide (n<=1000000000)=false:=by simpa using h2
   go_enter func53,ntmps53;go_wp2;go_ret;exact⟨rfl,rfl⟩
 .have b:decide (0<=n)=false:=by simpa using h1
  go_enter func53,ntmps53;go_wp2;go_ret;exact⟨rfl,rfl⟩
section
attribute [local go_sem↓] Go.wp_at_zero Go.wp_at_succ
def LL(births ph top at_:Int)(qs ms:Zl):Prop:=
 (ph=0/\qs=[]/\ms=[]/\top=0/\at_=0)\/(ph=1/\0<=top/\top<=births/\at_=top+1)\/(ph=2/\0<=top/\top<=births/\1<=at_/\at_<=top+1)
structure BQ (wd births K top at_ ro:Int) (qs ms:Zl):Prop where
 jj:0<=ro
 jh:ro<=1000000000
 dj:RG wd qs ms
 K:LL births K top at_ qs ms
end
def Dm(ss tt:Zl):Bool:=decide (ss.length+tt.length<=4000)&&(ss++tt).all (fun s=>decide (s.size<=5000))
def DP(ss:Zl):Bool:=ss.all (fun s=>decide (s.size<=5000))
theorem KC(a b:Zl):Dm a b=(decide (a.length+b.length<=4000)&&(DP a&&DP b)):=by simp[Dm,DP]
theorem MB(a:Zl)(k:Nat)(s:Zi)(h:a[k]?=some s):DP (a.take (k+1))=(DP (a.take k)&&decide (s.size<=5000)):=by obtain⟨b,rfl⟩:=Zw h;unfold DP;rw[Zu b,List.all_append,List.all_cons,List.all_nil,Bool.and_true]
theorem Lc(a:Zl)(k:Nat)(s:Zi)(h:a[k]?=some s)(b:5000<s.size):DP a=false:=by simp only[DP,List.all_eq_false];exact⟨s,Zs h,Yt⟩
theorem DJ(a b:Zk)(c d:Nat)(f g:Zl)(w:Zh)(B:Nat)(F:B<=w.heap.size)(A:Ab w B a f)(z:Ab w B b g)(H:f.length<=1048576)(E:g.length<=1048576)(u:∀s∈f,s.size<=1048576)(r:∀s∈g,s.size<=1048576):
 Calls prog 84 #[.agg #[.slice a f.length c,.slice b g.length d]] w fun e C=>e=.returned (.bool (Dm f g))/\Zz w C:=by
 have l:Below w.heap.size w (w.alloc (.cells #[.slice a f.length c,.slice b g.length d] 76)):=Zy;go_enter func84,ntmps84;go_wp2
 go_loop [3] (fun i=>∃k:Nat,k<=f.length/\i=Zg k/\DP (f.take k)=true) (fun i=>f.length -(intOf i).toNat)
 case atStart=>exact⟨0,Nat.zero_le _,rfl,by simp[DP]⟩
 case round=>
  obtain⟨k,G,rfl,q⟩:=hrel;by_cases hlt:k<f.length
  .obtain⟨p,off,t,y,m⟩:=A.at hlt;subst t;have v:=(l.cell (p:=⟨p,off+k,none⟩) Yt).trans (m k f[k] (Zv hlt));have n:Hid (DP (f.take (k+1))=(DP (f.take k)&&decide (f[k].size<=5000))):=MB f k _ (Zv hlt);have o:Hid (5000<f[k].size->DP f=false):=Lc f k _ (Zv hlt);have x:=u f[k] (List.getElem_mem hlt);clear m u r;generalize f[k]=s at *
   by_cases hbig:5000<s.size
   .go_wp2;go_ret;exact⟨by rw[KC,o.o hbig];simp,l⟩
   .go_wp2;refine⟨⟨k+1,Yv,Yo,?_⟩,by simp[intOf];omega⟩;rw[n.o,q];simp;omega
  .rw[Zt Yv]at q;go_wp2
   go_loop [4] (fun i=>∃k:Nat,k<=g.length/\i=Zg k/\DP (g.take k)=true) (fun i=>g.length -(intOf i).toNat)
   case atStart=>exact⟨0,Nat.zero_le _,rfl,by simp[DP]⟩
   case round=>
    obtain⟨h,D,rfl,j⟩:=hrel;by_cases hlt2:h<g.length
    .obtain⟨p,off,t,y,m⟩:=z.at hlt2;subst t;have v:=(l.cell (p:=⟨p,off+h,none⟩) Yt).trans (m h g[h] (Zv hlt2));have n:Hid (DP (g.take (h+1))=(DP (g.take h)&&decide (g[h].size<=5000))):=MB g h _ (Zv hlt2);have o:Hid (5000<g[h].size->DP g=false):=Lc g h _ (Zv hlt2);have x:=r g[h] (List.getElem_mem hlt2);clear m u r;generalize g[h]=s at *
     by_cases hbig:5000<s.size
     .go_wp2;go_ret;exact⟨by rw[KC,o.o hbig];simp,l⟩
     .go_wp2;refine⟨⟨h+1,Yv,Yo,?_⟩,by simp[intOf];omega⟩;rw[n.o,j];simp;omega
    .rw[Zt Yv]at j;go_wp2;go_ret;refine⟨?_,l⟩;rw[KC,q,j];simp;omega
structure Vd where
 wd:Int
 lim:Int
 ss:Zl
 A:Zl
 O:Int
 D:Int
 G:Int
 C:Int
 ks:List Kd
 ps:List Pd
 ls:List Ld
 K:Int
 F:Zl
 ms:Zl
 R:Int
 S:Int
 ro:Int
structure Va where
 Z:Zk
 j:Nat
 X:Zk
 Y:Nat
 T:Zk
 U:Nat
 L:Zk
 Q:Nat
 J:Zk
 P:Nat
 g:Zk
 qc:Nat
 i:Zk
 mc:Nat
abbrev Xt(v:Vd)(a:Va):Array Value:=#[.int .i64 v.wd,.int .i64 v.lim,.slice a.Z v.ss.length a.j,.slice a.X v.A.length a.Y,.int .i64 v.O,.int .i64 v.D,.int .i64 v.G,.int .i64 v.C,.slice a.T v.ks.length a.U,.slice a.L v.ps.length a.Q,.slice a.J v.ls.length a.P,.int .i64 v.K,.slice a.g v.F.length a.qc,.slice a.i v.ms.length a.mc,.int .i64 v.R,.int .i64 v.S,.int .i64 v.ro]
abbrev Xq(v:Vd)(a:Va):List Value:=[.int .i64 v.wd,.int .i64 v.lim,.slice a.Z v.ss.length a.j,.slice a.X v.A.length a.Y,.int .i64 v.O,.int .i64 v.D,.int .i64 v.G,.int .i64 v.C,.slice a.T v.ks.length a.U,.slice a.L v.ps.length a.Q,.slice a.J v.ls.length a.P,.int .i64 v.K,.slice a.g v.F.length a.qc,.slice a.i v.ms.length a.mc,.int .i64 v.R,.int .i64 v.S,.int .i64 v.ro]
abbrev Xp(v:Vd)(a:Option Addr)(b:Nat)(c:Option Addr)(d:Nat)(e:Option Addr)(f:Nat)(g:Option Addr)(h:Nat)(i:Option Addr)(j:Nat)(k:Option Addr)(l:Nat)(m:Option Addr)(n:Nat):List Value:=[.int .i64 v.wd,.int .i64 v.lim,.slice a v.ss.length b,.slice c v.A.length d,.int .i64 v.O,.int .i64 v.D,.int .i64 v.G,.int .i64 v.C,.slice e v.ks.length f,.slice g v.ps.length h,.slice i v.ls.length j,.int .i64 v.K,.slice k v.F.length l,.slice m v.ms.length n,.int .i64 v.R,.int .i64 v.S,.int .i64 v.ro]
abbrev Xo(v:Vd)(a:Option Addr)(b:Nat)(c:Option Addr)(d:Nat)(e:Option Addr)(f:Nat)(g:Option Addr)(h:Nat)(i:Option Addr)(j:Nat)(k:Option Addr)(l:Nat)(m:Option Addr)(n:Nat):Array Value:=#[.int .i64 v.wd,.int .i64 v.lim,.slice a v.ss.length b,.slice c v.A.length d,.int .i64 v.O,.int .i64 v.D,.int .i64 v.G,.int .i64 v.C,.slice e v.ks.length f,.slice g v.ps.length h,.slice i v.ls.length j,.int .i64 v.K,.slice k v.F.length l,.slice m v.ms.length n,.int .i64 v.R,.int .i64 v.S,.int .i64 v.ro]
structure CF (w:Zh) (B:Nat) (a:Va) (v:Vd):Prop where
 s:Ab w B a.Z v.ss
 t:Ab w B a.X v.A
 N:AZ w B a.T a.L a.J v.ks v.ps v.ls
 q:Ab w B a.g v.F
 m:Ab w B a.i v.ms
theorem CF.af{a:Va}{v:Vd}(h:CF w B a v)(b:Below B w c):CF c B a v:=
 ⟨h.s.below b,h.t.below b,h.N.af b,h.q.below b,h.m.below b⟩
theorem CF.mono{c:Nat}{a:Va}{v:Vd}(h:CF w B a v)(b:B<=c):CF w c a v:=
 ⟨h.s.mono b,h.t.mono b,h.N.mono b,h.q.mono b,h.m.mono b⟩
theorem CF.M{b:Zh}{a:Va}{v:Vd}(h:CF w w.heap.size a v)(c:Zz w b):CF b b.heap.size a v:=(h.af c).mono c.size
structure Tj (a:Va) (v:Vd):Prop where
 s:a.Z=none->v.ss.length=0/\a.j=0
 t:a.X=none->v.A.length=0/\a.Y=0
 m:v.ms.length<=a.mc
structure Fw (v:Vd):Prop where
 s:v.ss.length<=1048576
 t:v.A.length<=1048576
 ss:∀s∈v.ss,s.size<=1048576
 A:∀s∈v.A,s.size<=1048576
 N:Fo v.ks v.ps v.ls
 r:Qn v.F v.ms
 rn:EZ v.ks<=1048576
structure Dw (v:Vd) (r:Rs):Prop where
 wd:1<=v.wd/\v.wd<=8
 lim:0<=v.lim/\v.lim<=1000000
 log:Dm v.ss v.A=true
 run:CJ v.wd r0 (v.ss++v.A) r
 same:(v.wd=v.O/\r.D=v.D/\r.G=v.G/\r.C=v.C)/\r.ks=v.ks/\r.ps=v.ps/\r.ls=v.ls
 round:BQ v.wd v.C v.K v.R v.S v.ro v.F v.ms
def Cp(v:Vd):Prop:=∃r,Dw v r
theorem DV{a b:Zl}(h:Dm a b=true):(a++b).length<=4000:=by unfold Dm at h;simp at h;rw[List.length_append];exact h.1
theorem NI{j k l m n o q r a c d e f g i:Value}(h:Aa w b [j,k,l,m,n,o,q,r,s,t,a,c,d,e,f,g,i]):w.cell? (Zd b 0)=some j/\w.cell? (Zd b 1)=some k/\w.cell? (Zd b 2)=some l/\w.cell? (Zd b 3)=some m/\w.cell? (Zd b 4)=some n/\w.cell? (Zd b 5)=some o/\w.cell? (Zd b 6)=some q/\w.cell? (Zd b 7)=some r/\w.cell? (Zd b 8)=some s/\w.cell? (Zd b 9)=some t/\w.cell? (Zd b 10)=some a/\w.cell? (Zd b 11)=some c/\w.cell? (Zd b 12)=some d/\w.cell? (Zd b 13)=some e/\w.cell? (Zd b 14)=some f/\w.cell? (Zd b 15)=some g/\w.cell? (Zd b 16)=some i:=
 ⟨(h 0 _ rfl).1,(h 1 _ rfl).1,(h 2 _ rfl).1,(h 3 _ rfl).1,(h 4 _ rfl).1,(h 5 _ rfl).1,(h 6 _ rfl).1,(h 7 _ rfl).1,(h 8 _ rfl).1,(h 9 _ rfl).1,(h 10 _ rfl).1,(h 11 _ rfl).1,(h 12 _ rfl).1,(h 13 _ rfl).1,(h 14 _ rfl).1,(h 15 _ rfl).1,(h 16 _ rfl).1⟩
theorem NJ{lo:Nat}{e:TypeId}{size:Nat}(h:w.ownsRow lo e size v n d)(i:Tn V w c)(g:∀b∈V,b<lo):c.ownsRow lo e size v n d:=
 As h (fun q a=>i.block q (Ad h a).2 (fun f=>by have j:=g q f;have k:=(Ad h a).1;omega))
theorem Aa.there(h:Aa w B l):w.there B 0 l.length:=fun j c=>by obtain⟨a,b⟩:=h j _ (Zv c);rw[Nat.zero_add];exact⟨by rw[a];rfl,b⟩
theorem Aa.range(h:Aa w B l):w.rangeAt B 0 l:=fun j v a=>by rw[Nat.zero_add];exact(h j v a).1
theorem AL(B:Nat):∀(vs:Zj) (o:Nat) (w:Zh),Tn [B] w (w.setCells B o vs)
 |[],_,w=>Tn.of (Below.refl _ _)
 |v::r,o,w=>(Tn.set w B o v Yu).trans (AL B r (o+1) (w.setCell (Zd B o) v))
theorem Aa.au(h:Aa w B l)(a:Zj)(d:a.length=l.length):Aa (w.setCells B 0 a) B a:=fun j v c=>by have e:=(Zw c).1;have b:=World.rangeAt_setCells_same w B 0 a (d▸h.there) j v c;rw[Nat.zero_add]at b;refine⟨b,?_⟩;rw[World.frozen?_setCells];exact(h j _ (Zv Yv)).2
theorem AW{P:Program}{e:Func}{c:TypeId}(h:e.results= #[.cell p c])(tmps:Array Value)(w:Zh)(b:Nat)(a:Zj)(d:TypeDesc)(k:tmps.getD p undef=Yy b)(g:w.rangeAt b 0 a)(l:P.underlying c=some d)(i:d.isRow=true)(j:(P.info? c).map (·.size)=some a.length):
 (results e tmps).run P w=.ok (.agg a.toArray) w:=by
 have f:tmps[p]?.getD undef=Yy b:=by simpa using k
 simp[results,h,f,asAddr,run_loadVar_mid w b 0 c a d g l i j]
theorem FL{P:Program}{e:Func}{u:Tmp}{c:TypeId}{x:Value}(h:e.results= #[.cell p c,.tmp u])(tmps:Array Value)(w:Zh)(b:Nat)(a:Zj)(d:TypeDesc)(j:tmps.getD p undef=Yy b)(l:tmps.getD u undef=x)(f:w.rangeAt b 0 a)(k:P.underlying c=some d)(g:d.isRow=true)(i:(P.info? c).map (·.size)=some a.length):
 (results e tmps).run P w=.ok (.tuple #[.agg a.toArray,x]) w:=by
 rw[results_cell_tmp h,j,l];simp[asAddr,run_loadVar_mid w b 0 c a d f k g i]
theorem IZ.af{d:Zh}{lo p l:Nat}{c:List Pd}{b:List Ld}(h:IZ w lo g p l ks c b)(a:Zz w d):IZ d lo g p l ks c b:=⟨h.k.af a,h.p.af a,h.l.af a⟩
def Tk(w:Zh)(lo:Nat)(a:Va)(v:Vd):Prop:=
 ∃(g k g3 q3 r3 g5 k5 lo1 lo2:Nat) (w2:Zh),a=⟨some ⟨g,0,none⟩,v.ss.length,some ⟨k,0,none⟩,v.A.length,some ⟨g3,0,none⟩,v.ks.length,some ⟨q3,0,none⟩,v.ps.length,some ⟨r3,0,none⟩,v.ls.length,some ⟨g5,0,none⟩,v.F.length,some ⟨k5,0,none⟩,v.ms.length⟩/\
  g<k/\k<lo1/\lo<=lo1/\lo1<=lo2/\lo2<=w.heap.size/\g5<k5/\
  w.ownsRow lo 9 1 (.slice (some ⟨g,0,none⟩) v.ss.length v.ss.length) v.ss.length (v.ss.map Value.string)/\w.ownsRow lo 9 1 (.slice (some ⟨k,0,none⟩) v.A.length v.A.length) v.A.length (v.A.map Value.string)/\
  IZ w2 lo1 g3 q3 r3 v.ks v.ps v.ls/\w2.heap.size<=lo2/\(∀b,lo1<=b->b<w2.heap.size->w.heap[b]?=w2.heap[b]?)/\
  w.ownsRow lo2 9 1 (.slice (some ⟨g5,0,none⟩) v.F.length v.F.length) v.F.length (v.F.map Value.string)/\w.ownsRow lo2 9 1 (.slice (some ⟨k5,0,none⟩) v.ms.length v.ms.length) v.ms.length (v.ms.map Value.string)
theorem Tk.af{l:Zh}{lo:Nat}{a:Va}{v:Vd}(h:Tk w lo a v)(G:w.heap.size<=l.heap.size)(d:∀b,lo<=b->b<w.heap.size->l.heap[b]?=w.heap[b]?):Tk l lo a v:=by obtain⟨g,k,t,I,J,u,H,r,s,K,x,y,z,A,B,C,D,i,j,E,m,n,e,f⟩:=h;refine⟨g,k,t,I,J,u,H,r,s,K,x,y,z,A,B,Zm C G,D,As i (fun q c=>d q (Ad i c).1 (Ad i c).2),As j (fun q c=>d q (Ad j c).1 (Ad j c).2),E,m,fun b F o=>(d b Yv Yv).trans (n b F o),As e (fun q c=>d q (by have:=(Ad e c).1;omega) (Ad e c).2),As f (fun q c=>d q (by have:=(Ad f c).1;omega) (Ad f c).2)⟩
structure Ww (n kmax feq fmark:Nat) (R:Nat->Zh->Zj->Prop) (O:Nat->Nat->Zh->Zj->Prop) (M:Nat->Nat->Zh->Zj->Nat->Prop):Prop where
 eq:∀(X:Zh) (cs ds:Zj),R X.heap.size X cs->R X.heap.size X ds->Calls prog feq #[.agg cs.toArray,.agg ds.toArray] X fun e X'=>e=.returned (.bool true)/\Zz X X'
 mark:∀(lo N:Nat) (X:Zh) (cs:Zj) (k:Nat),O lo N X cs->1<=k->k<=kmax->Calls prog fmark #[.agg cs.toArray,Zg k] X fun e X'=>(∃K:Nat,e=.returned (Zg K)/\1<=K/\K<=90000000/\M lo N X' cs K)/\Below lo X X'/\∀q,N<=q->q<X.heap.size->X'.heap[q]?=X.heap[q]?
 keepR:∀(L:Nat) (X X':Zh) (cs:Zj),R L X cs->Below L X X'->R L X' cs
 monoR:∀(L L':Nat) (X:Zh) (cs:Zj),R L X cs->L<=L'->R L' X cs
 keepO:∀(lo N:Nat) (X X':Zh) (cs:Zj),O lo N X cs->X.heap.size<=X'.heap.size->(∀q,lo<=q->q<N->X'.heap[q]?=X.heap[q]?)->O lo N X' cs
 keepM:∀(lo N:Nat) (X X':Zh) (cs:Zj) (K:Nat),M lo N X cs K->X.heap.size<=X'.heap.size->(∀q,lo<=q->q<N->X'.heap[q]?=X.heap[q]?)->M lo N X' cs K
 ofO:∀(lo N:Nat) (X:Zh) (cs:Zj),O lo N X cs->N<=X.heap.size/\R X.heap.size X cs
 lenR:∀(L:Nat) (X:Zh) (cs:Zj),R L X cs->cs.length=n/\∀u∈cs,u.oneCell'=true
structure L1 (RA:Nat->Zh->Zj->Prop) (w X:Zh) (A sc:Zj) (pS L:Nat):Prop where
 bt:Below w.heap.size w X
 bA:Aa X w.heap.size A
 bS:Aa X pS sc
 rS:RA L X sc
 l0:w.heap.size<L
 l1:pS<L
 le:L<=X.heap.size
theorem L1.af{c a:Nat}{d:Nat->Zh->Zj->Prop}{l:Nat->Nat->Zh->Zj->Prop}{j:Nat->Nat->Zh->Zj->Nat->Prop}(k:Ww n c i a d l j){A g:Zj}{f L:Nat}(h:L1 d w X A g f L)(b:Below L X e):L1 d w e A g f L:=
 ⟨h.bt.trans (b.mono (by have:=h.l0;omega)),Aa.same h.bA (b.block _ h.l0),Aa.same h.bS (b.block _ h.l1),k.keepR _ _ _ _ h.rS b,h.l0,h.l1,Zm h.le b.size⟩
structure L2 (OX:Nat->Nat->Zh->Zj->Prop) (X:Zh) (xc:Zj) (L pX N:Nat):Prop where
 bX:Aa X pX xc
 oX:OX L N X xc
 l1:N<=pX
 le:pX<X.heap.size
theorem L2.af{c a:Nat}{RX:Nat->Zh->Zj->Prop}{d:Nat->Nat->Zh->Zj->Prop}{j:Nat->Nat->Zh->Zj->Nat->Prop}(k:Ww n c i a RX d j){g:Zj}{L f:Nat}(h:L2 d X g L f N)(b:Zz X e):L2 d e g L f N:=
 ⟨Aa.same h.bX (b.block _ h.le),k.keepO _ _ _ _ _ h.oX b.size (fun q _ l=>b.block q (by have:=h.l1;have:=h.le;omega)),h.l1,Zr h.le b.size⟩
structure L3 (P:Nat->Nat->Zh->Zj->Prop) (X:Zh) (gc:Zj) (lo pG N:Nat):Prop where
 bG:Aa X pG gc
 oG:P lo N X gc
 l1:N<=pG
 le:pG<X.heap.size
theorem L3.stays{P:Nat->Nat->Zh->Zj->Prop}(k:∀(lo N:Nat) (X a:Zh) (c:Zj),P lo N X c->X.heap.size<=a.heap.size->(∀q,lo<=q->q<N->a.heap[q]?=X.heap[q]?)->P lo N a c){a:Zh}{lo:Nat}(h:L3 P X d lo b N)(l:B<=lo)(g:B<=b)(f:X.heap.size<=a.heap.size)(e:∀q,B<=q->q<X.heap.size->a.heap[q]?=X.heap[q]?):L3 P a d lo b N:=
 ⟨Aa.same h.bG (e _ g h.le),k _ _ _ _ _ h.oG f (fun q i j=>e q Yv (by have:=h.l1;have:=h.le;omega)),h.l1,Zr h.le f⟩
theorem L3.af{P:Nat->Nat->Zh->Zj->Prop}(k:∀(lo N:Nat) (X a:Zh) (b:Zj),P lo N X b->X.heap.size<=a.heap.size->(∀q,lo<=q->q<N->a.heap[q]?=X.heap[q]?)->P lo N a b){a:Zh}{c:Zj}{lo e:Nat}(h:L3 P X c lo e N)(d:Zz X a):L3 P a c lo e N:=
 h.stays (B:=0) k (Nat.zero_le _) (Nat.zero_le _) d.size (fun q _ f=>d.block q f)
theorem boxed{cs z:Zj}{T:TypeId}(b:cs.length=z.length):Aa ((X.alloc (.cells z.toArray T)).setCells X.heap.size 0 cs) X.heap.size cs/\Zz X ((X.alloc (.cells z.toArray T)).setCells X.heap.size 0 cs)/\((X.alloc (.cells z.toArray T)).setCells X.heap.size 0 cs).heap.size=X.heap.size+1:=by have a:=Aa.new X z T;have c:=AL X.heap.size cs 0 (X.alloc (.cells z.toArray T));refine⟨a.au cs b,(Zy).trans (c.below Yu Yu),?_⟩;rw[FG];simp
def Ao(w:Zh)(base:Nat)(v:Value)(ss:Zl):Prop:=
 (v=Zb/\ss=[])\/∃g off cap,v=.slice (some ⟨g,off,none⟩) ss.length cap/\base<=g/\g<w.heap.size/\ss.length<=cap/\cap<=maxLen/\
   (∀j,j<cap->(w.cell? (Zd g (off+j))).isSome=true/\w.frozen? ⟨g,off+j,none⟩=false)/\
   ∀i s,ss[i]?=some s->w.cell? (Zd g (off+i))=some (.string s)
theorem Ao.nil(w:Zh)(a:Nat):Ao w a Zb []:=.inl ⟨rfl,rfl⟩
theorem Ao.own{c:Zl}(h:w.ownsRow b 9 1 v c.length (c.map Value.string)):Ao w b v c:=by
 rcases h.2 with⟨rfl,q⟩|⟨g,cap,d,rfl,l,e,m,o,f,r⟩
 .exact .inl ⟨rfl,List.eq_nil_of_length_eq_zero q⟩
 .have n:=(Array.getElem?_eq_some_iff.1 e).1;have a:∀j,w.cell? (Zd g (0+j))=d[j]?:=fun j=>by rw[Nat.zero_add];simp[World.cell?,e]
  refine .inr ⟨g,0,cap,rfl,l,n,m,o,fun j u=>⟨?_,?_⟩,fun i s f=> ?_⟩
  .rw[a,Array.getElem?_eq_getElem Yv];rfl
  .simp[World.frozen?,e]
  .have t:=(Zw f).1;rw[a];have k:(d.toList.take (c.length *1))[i]?=some (.string s):=by rw[r];simp[f]
   rw[List.getElem?_take_of_lt Yv]at k;simpa using k
theorem Ao.row{c:Zl}(h:Ao w b v c):∃a cap,v=.slice a c.length cap/\Ab w w.heap.size a c:=by
 rcases h with⟨rfl,rfl⟩|⟨g,off,cap,rfl,f,d,_,_,_,e⟩
 .exact⟨none,0,rfl,.inl rfl⟩
 .exact⟨_,cap,rfl,.inr ⟨g,off,rfl,d,e⟩⟩
theorem Ao.stays{a:Nat}{f:Zl}(h:Ao w a v f)(r:w.heap.size<=c.heap.size)(b:∀g,Al v=some g->c.heap[g]?=w.heap[g]?):Ao c a v f:=by
 rcases h with h|⟨g,off,cap,rfl,k,q,l,m,d,n⟩
 .exact .inl h
 .exact .inr ⟨g,off,cap,rfl,k,Yv,l,m,fun j e=>⟨by rw[World.cell?_of_block (b g rfl)];exact(d j e).1,by rw[World.frozen?_of_block (b g rfl)];exact(d j e).2⟩,fun i s o=>(World.cell?_of_block (b g rfl)).trans (n i s o)⟩
theorem Ao.W{a:Nat}{e:Zl}(h:Ao w a v e)(b:Al v=some g):a<=g/\g<w.heap.size:=by
 rcases h with⟨rfl,_⟩|⟨f,off,cap,rfl,c,d,_⟩
 .cases b
 .cases b;exact⟨c,d⟩
theorem Ao.below{b:Zl}(h:Ao w base v b)(a:Zz w c):Ao c base v b:=
 h.stays a.size (fun g e=>a.block g (h.W e).2)
theorem Ao.I{d:Zh}{a:Nat}{c:Zl}(h:Ao w a v c)(b:Tn V w d)(f:∀g,Al v=some g->g∉V):Ao d a v c:=
 h.stays b.size (fun g e=>b.block g (h.W e).2 (f g e))
theorem Ao.mono{ss:Zl}(h:Ao w base v ss)(b:base'<=base):Ao w base' v ss:=by
 rcases h with h|⟨g,off,cap,rfl,a,rest⟩
 .exact .inl h
 .exact .inr ⟨g,off,cap,rfl,Yv,rest⟩
theorem Ao.tail{a:Nat}{s:Zi}{b:Zl}(h:Ao w a (.slice (some ⟨g,off,none⟩) n cap) (s::b)):Ao w a (.slice (some ⟨g,off+1,none⟩) b.length (cap -1)) b/\n=b.length+1/\n<=cap/\w.cell? (Zd g off)=some (.string s):=by
 rcases h with⟨h,_⟩|⟨r,k,f,c,l,o,d,t,m,e⟩
 .cases h
 .simp only[List.length_cons]at c d;cases c;refine⟨.inr ⟨g,off+1,cap -1,rfl,l,o,Yv,Yv,fun j u=> ?_,fun i s q=> ?_⟩,rfl,d,by simpa using e 0 s rfl⟩
  .have:=m (j+1) Yv;rw[show off+(j+1)=off+1+j by omega]at this;exact this
  .have:=e (i+1) s (by simpa using q);rw[show off+(i+1)=off+1+i by omega]at this;exact this
theorem Ao.fresh(w:Zh)(c:Nat)(b:Zl)(cap:Nat)(z:Array Value)(g:c<=w.heap.size)(e:b.length<=cap)(f:cap<=maxLen)(k:z.size=cap -b.length):
 Ao (w.drew.alloc (.cells ((b.map Value.string).toArray++z) 9)) c (Yz w.heap.size b.length cap) b:=by
 have a:∀j,(w.drew.alloc (.cells ((b.map Value.string).toArray++z) 9)).cell? (Zd (w.heap.size) (0+j))=((b.map Value.string).toArray++z)[j]?:=fun j=>by rw[Nat.zero_add];show(w.drew.alloc (.cells ((b.map Value.string).toArray++z) 9)).cell? (Zd (w.drew.heap.size) j)=_;rw[World.cell?_alloc_at _ _ _ _ rfl]
 refine .inr ⟨w.heap.size,0,cap,rfl,g,Yu,e,f,fun j l=>⟨?_,?_⟩,fun i s d=> ?_⟩
 .rw[a,Array.getElem?_eq_getElem (by simp[k];omega)];rfl
 .simp[go_sem]
 .have h:=(Zw d).1;rw[a,Array.getElem?_append_left (by simpa using h)];simp[d]
theorem JP(w:Zh)(b:Nat)(v:Value)(a:Zl)(T:Ao w b v a)(p:Addr)(cp:Nat)(t:Zi)(z:w.cell? p=some (.string t))(V:a.length<=100000000)(q:b<=w.heap.size)(A:TypeId):
 ∃c d,(Builtin.append_ #[29,29] A #[v,.slice (some p) 1 cp]).run prog w=.ok c d/\Ao d b c (a++[t])/\w.grownBy d (Al v)/\(Al c=Al v\/Al c=some w.heap.size):=by
 obtain⟨i,I,O,n,P⟩:=info_parts BW;have o:Src prog i.size 29 (.slice (some p) 1 cp) 1 [.string t] w:=by
  rw[n];exact Src.ofSlice w underlying29 p 1 cp [.string t] rfl (fun j u l=>by
   match j,l with
   |0,l=>cases l;rw[show p.add 0=p from by cases p;simp[Addr.add]];exact z) (by simp[Value.oneCell'])
 have grow:∀(y:Zk) (cap:Nat),cap<a.length+1->(Builtin.firstCells i.size a.length (.slice y a.length cap)).run prog w.drew=.ok (a.map Value.string).toArray w.drew->
  ∃c d,(Builtin.append_ #[29,29] A #[.slice y a.length cap,.slice (some p) 1 cp]).run prog w=.ok c d/\Ao d b c (a++[t])/\(∀row,w.grownBy d row)/\Al c=some w.heap.size:=by
  intro y cap C hold;have h:=run_append_grow_src w _ _ A _ i _ underlying29 I O y a.length cap (a.map Value.string) hold _ 1 [.string t] o C Yv (by
   have:=nextslicecap_le C;rw[P];omega)
  rw[show a.map Value.string++[.string t]=(a++[t]).map Value.string by simp]at h;have J:=grownCap_ge w (a.length+1) cap 9;have M:=grownCap_le_maxLen w (a.length+1) cap 9 Yp
  have B:=Ao.fresh w b (a++[t]) (grownCap w (a.length+1) cap 9) (Builtin.zeroCells (Value.string ⟨#[]⟩).cells (grownCap w (a.length+1) cap 9 -(a.length+1))) q (by simpa using J) M (by rw[size_zeroCells,List.length_append];simp[Value.cells]);rw[List.length_append]at B;exact⟨_,_,h,B,fun row=>⟨rfl,rfl,rfl,Yu,fun k H _=>heap_alloc_old w.drew _ H⟩,rfl⟩
 rcases T with⟨rfl,rfl⟩|⟨g,off,cap,rfl,Q,S,U,R,r,z⟩
 .obtain⟨c,d,h,E,F,G⟩:=grow none 0 Yu (run_firstCells_none w.drew _ _ _ _);exact⟨c,d,h,E,F _,.inr G⟩
 .by_cases hroom:a.length+1<=cap
  .have x:∀j,j<[Value.string t].length->(a.length *1+j)<cap:=fun j f=>by simp at f;omega
   have h:=run_append_room_src w _ _ A _ i underlying29 I g off a.length cap _ 1 [.string t] o hroom (fun j f=>by rw[n,Nat.add_assoc];exact(r _ (x j f)).1) (fun j f=>by rw[n,Nat.add_assoc];exact(r _ (x j f)).2);rw[n]at h
   refine⟨_,_,h,.inr ⟨g,off,cap,by rw[List.length_append];rfl,Q,by rw[FG];exact S,by rw[List.length_append];exact hroom,R,fun j f=>⟨?_,?_⟩,fun k s m=> ?_⟩,⟨World.os_setCells _ _ _ _,IX _ _ _ _,World.output_setCells _ _ _ _,by rw[FG];exact Zx,fun k H N=>World.heap_setCells_other _ _ _ _ H (fun e=>N (by rw[e];rfl))⟩,.inl rfl⟩
   .exact GX _ _ _ _ _ (r j f).1
   .rw[World.frozen?_setCells];exact(r j f).2
   .rcases Nat.lt_or_ge k a.length with D|D
    .rw[List.getElem?_append_left D]at m;rw[World.cell?_setCells_out _ _ _ _ _ (fun _ _=> .inl Yt)];exact z k s m
    .rw[List.getElem?_append_right D]at m;have L:k=a.length:=by have:=(Zw m).1;simp at this;omega
     subst L;simp at m;subst m;have K:=World.cell?_setCells_in g [.string t] (off+a.length *1) w (fun j f=>by rw[Nat.add_assoc];exact(r _ (x j f)).1) 0 Yu;simpa using K
  .obtain⟨c,d,h,E,F,G⟩:=grow (some ⟨g,off,none⟩) cap Yv (run_firstCells_some w.drew _ _ _ _ _ _ (by rw[n];simp) (by
    intro j u l;obtain⟨s,m,rfl⟩:∃s,a[j]?=some s/\u=.string s:=by
     rw[List.getElem?_map]at l;cases e:a[j]? with
     |none=>rw[e]at l;cases l
     |some s=>rw[e]at l;cases l;exact⟨s,rfl,rfl⟩
    rw[Go.WideShapes.add_plain];exact z j s m))
   exact⟨c,d,h,E,F _,.inr G⟩
theorem Ao.set{d:Zl}(h:Ao w base (.slice (some ⟨g,off,none⟩) n cap) d){j:Nat}(u:j<d.length)(t:Zi):Ao (w.setCell (Zd g (off+j)) (.string t)) base (.slice (some ⟨g,off,none⟩) n cap) (d.set j t):=by
 rcases h with⟨e,_⟩|⟨v,k,f,e,l,m,o,q,a,r⟩
 .cases e
 .cases e;refine .inr ⟨g,off,cap,by rw[List.length_set],l,by simpa using m,by rw[List.length_set];exact o,q,fun i c=>⟨?_,?_⟩,fun i s b=> ?_⟩
  .exact(BI.setCell w g (off+j) (.string t) g (off+i) (a i c).1).1
  .exact(BI.setCell w g (off+j) (.string t) g (off+i) (a i c).1).2 (a i c).2
  .by_cases hij:i=j
   .subst hij;rw[List.getElem?_set_self u]at b;cases b;exact World.cell?_setCell_same' _ _ _ (a i Yv).1
   .rw[List.getElem?_set_ne (fun e=>hij e.symm)]at b;exact(World.cell?_setCell_other w _ _ _ Yn).trans (r i s b)
def Jm(w:Zh)(b:Nat)(u v:Value):Prop:=w.cell? (Zd b 0)=some u/\w.cell? (Zd b 1)=some v/\b<w.heap.size
theorem Jm.new(w:Zh)(u v:Value)(t:TypeId):Jm (w.alloc (.cells #[u,v] t)) w.heap.size u v:=⟨Yu,Yu,Yu⟩
theorem Jm.below(h:Jm w b u v)(a:Zz w c):Jm c b u v:=
 ⟨(a.cell (p:=⟨b,0,none⟩) h.2.2).trans h.1,(a.cell (p:=⟨b,1,none⟩) h.2.2).trans h.2.1,Zr h.2.2 a.size⟩
theorem Jm.alloc(h:Jm w b u v)(o:Obj):Jm (w.alloc o) b u v:=h.below (Zy)
theorem AY.I{f:Zh}{a:Nat}{l:List Kd}{o:List Pd}{m:List Ld}(h:AY w a T P L q l o m)(x:Tn V w f)(s:∀b∈V,b<a):AY f a T P L q l o m:=by have c:∀{e:TypeId} {size:Nat} {v:Value} {n:Nat} {xs:Zj},w.ownsRow a e size v n xs->f.ownsRow a e size v n xs:=fun d=>As d (fun g j=>x.block g (Ad d j).2 (fun e=>by have:=s g e;have:=(Ad d j).1;omega));exact⟨h.len,c h.aj,fun i k r t u=>c (h.B i k r t u),c h.pins,c h.aq,h.nd⟩
theorem AY.mono{c:List Pd}{b:List Ld}(h:AY w base T P L rs ks c b)(a:base'<=base):AY w base' T P L rs ks c b:=
 ⟨h.len,h.aj.mono a,fun i k r d e=>(h.B i k r d e).mono a,h.pins.mono a,h.aq.mono a,h.nd⟩
theorem AY.lo{e:Zj}{j:List Kd}{l:List Pd}(h:AY w b T P L e j l k):∀g∈BO T P L e,b<=g:=by
 intro g a;unfold BO at a;simp only[List.mem_append,Option.mem_toList,List.mem_filterMap]at a;rcases a with a|a|a|⟨r,f,a⟩
 .exact(Ad h.aj a).1
 .exact(Ad h.pins a).1
 .exact(Ad h.aq a).1
 .obtain⟨i,c⟩:=List.getElem?_of_mem f;have d:=(Zw c).1;rw[h.len]at d;exact(Ad (h.B i _ r (Zv d) c) a).1
theorem AY.di{e:Zj}{j:List Kd}{l:List Pd}(h:AY w b T P L e j l k):∀g∈BO T P L e,g<w.heap.size:=by
 intro g a;unfold BO at a;simp only[List.mem_append,Option.mem_toList,List.mem_filterMap]at a;rcases a with a|a|a|⟨r,f,a⟩
 .exact(Ad h.aj a).2
 .exact(Ad h.pins a).2
 .exact(Ad h.aq a).2
 .obtain⟨i,c⟩:=List.getElem?_of_mem f;have d:=(Zw c).1;rw[h.len]at d;exact(Ad (h.B i _ r (Zv d) c) a).2
theorem AY.apart{l:Zh}{d:Nat}{n:List Kd}{q:List Pd}{o:List Ld}(h:AY w d T P L f n q o)(u:Tn V w l)(s:∀b∈V,b∉BO T P L f):AY l d T P L f n q o:=by
 have c:∀g,g∈BO T P L f->g<w.heap.size->l.heap[g]?=w.heap[g]?:=fun g a t=>u.block g t (fun e=>s g e a)
 refine⟨h.len,As h.aj (fun g a=>c g (by unfold BO;simp[a]) (Ad h.aj a).2),fun i k r m j=>As (h.B i k r m j) (fun g a=>c g (by unfold BO;simp only[List.mem_append,List.mem_filterMap];exact .inr (.inr (.inr ⟨r,Zs j,a⟩))) (Ad (h.B i k r m j) a).2),As h.pins (fun g a=>c g (by unfold BO;simp[a]) (Ad h.pins a).2),As h.aq (fun g a=>c g (by unfold BO;simp[a]) (Ad h.aq a).2),h.nd⟩
theorem AY.rows{a:Zj}{b:List Kd}{v:List Pd}{t:List Ld}(h:AY w n T P L a b v t):∃m x l u f s,T=.slice m b.length x/\P=.slice l v.length u/\L=.slice f t.length s/\AZ w w.heap.size m l f b v t:=by
 obtain⟨m,x,rfl⟩:=Ax h.aj;obtain⟨l,u,rfl⟩:=Ax h.pins;obtain⟨f,s,rfl⟩:=Ax h.aq;refine⟨m,x,l,u,f,s,rfl,rfl,rfl,⟨?_,AO.own h.pins,AR.own h.aq⟩⟩;rcases h.aj.2 with⟨_,r⟩|⟨g,cap,H,e,K,C,_⟩
 .exact .inl (List.length_eq_zero_iff.1 r)
 .cases e;refine .inr ⟨g,0,rfl,(Array.getElem?_eq_some_iff.1 C).1,fun i k q=> ?_⟩;have M:=(Zw q).1;have hlen:=h.len;have y:a[i]?=some a[i]:=Zv Yv;have E:(b.zip a)[i]?=some (k,a[i]):=List.getElem?_zip_eq_some.2 ⟨q,y⟩;have I:(b.zip a).length=b.length:=by rw[List.length_zip];omega
  have c:∀j,j<4->w.cell? (Zd g (i *4+j))=(kC (k,a[i]))[j]?:=fun j D=>(h.aj.cellAt (i *4+j) Yv).trans (Cd Ce E D);have d:=h.B i k _ q y;obtain⟨F,G,o⟩:=Ax d;rw[Nat.zero_add];refine⟨by simpa [kC]using c 0 Yr,by simpa [kC]using c 1 Yr,by simpa [kC]using c 2 Yr,F,G,?_,?_⟩
  .have:=c 3 Yr;rw[<-o];simpa [kC]using this
  .rw[o]at d;rcases d.2 with⟨_,r⟩|⟨J,z,A,B,_⟩
   .exact .inl (List.eq_nil_of_length_eq_zero r)
   .cases B;exact Ab.own d
theorem KD{a:List Kd}(h:∀k∈a,k.B.length<=30):EZ a<=30 *a.length:=by
 induction a with
 |nil=>simp[EZ]
 |cons x xs ih=>rw[PM];have c:=h x Yu;have d:=ih (fun k b=>h k (by simp[b]));simp only[List.length_cons];omega
theorem IZ.gm{lo p l:Nat}{b:List Kd}{j:List Pd}{f:List Ld}(h:IZ w lo g p l b j f):DR w ⟨g,0,none⟩ b:=by obtain⟨m,e,d,_⟩:=h.k;intro i x a;have k:=(Zw a).1;obtain⟨_,_,_,q,c,_⟩:=d i x a;refine⟨⟨q,0,none⟩,x.B.length,?_⟩;rw[<-c,Nat.zero_add];exact e.cellAt (i *4+3) Yv
theorem AY.same{m:Zj}{f:List Kd}{l:List Pd}{j:List Ld}(h:AY w base T P L m f l j)(s:∀b,base<=b->b<w.heap.size->c.heap[b]?=w.heap[b]?):AY c base T P L m f l j:=by have a:∀{e:TypeId} {size:Nat} {v:Value} {n:Nat} {xs:Zj},w.ownsRow base e size v n xs->c.ownsRow base e size v n xs:=fun h=>As h (fun g d=>s g (Ad h d).1 (Ad h d).2);exact⟨h.len,a h.aj,fun i k r o q=>a (h.B i k r o q),a h.pins,a h.aq,h.nd⟩
theorem DR.below{b:List Kd}(h:DR w ⟨g,0,none⟩ b)(e:Zz w c):DR c ⟨g,0,none⟩ b:=by intro i k f;obtain⟨d,j,a⟩:=h i k f;exact⟨d,j,(e.cell (p:=⟨g,0+i *4+3,none⟩) (World.block_lt_of_cell? w _ a)).trans a⟩
def CK(S U T P L Q M:Value)(rs:Zj):List Nat:=((Al S).toList++(Al U).toList)++(BO T P L rs++((Al Q).toList++(Al M).toList))
structure AD (w:Zh) (base:Nat) (S U T P L Q M:Value) (rs:Zj) (v:Vd):Prop where
 s:Ao w base S v.ss
 u:Ao w base U v.A
 N:AY w base T P L rs v.ks v.ps v.ls
 q:Ao w base Q v.F
 m:Ao w base M v.ms
 nd:(CK S U T P L Q M rs).Nodup
theorem AD.lo{M:Value}{c:Zj}{v:Vd}(h:AD w b S U T P L Q M c v):∀g∈CK S U T P L Q M c,b<=g:=by
 intro g a;unfold CK at a;simp only[List.mem_append,Option.mem_toList]at a;rcases a with(a|a)|a|a|a
 .exact(h.s.W a).1
 .exact(h.u.W a).1
 .exact h.N.lo g a
 .exact(h.q.W a).1
 .exact(h.m.W a).1
theorem AD.di{M:Value}{c:Zj}{v:Vd}(h:AD w b S U T P L Q M c v):∀g∈CK S U T P L Q M c,g<w.heap.size:=by
 intro g a;unfold CK at a;simp only[List.mem_append,Option.mem_toList]at a;rcases a with(a|a)|a|a|a
 .exact(h.s.W a).2
 .exact(h.u.W a).2
 .exact h.N.di g a
 .exact(h.q.W a).2
 .exact(h.m.W a).2
theorem AD.stays{c:Nat}{M:Value}{v:Vd}(h:AD w c S U T P L Q M f v)(d:Tn V w j)(k:∀b∈V,b∉CK S U T P L Q M f):AD j c S U T P L Q M f v:=by have e:∀b∈CK S U T P L Q M f,b∉V:=fun b i l=>k b l i;unfold CK at e;simp only[List.mem_append,Option.mem_toList]at e;exact⟨h.s.I d (fun g a=>e g (.inl (.inl a))),h.u.I d (fun g a=>e g (.inl (.inr a))),h.N.apart d (fun b i m=>e b (.inr (.inl m)) i),h.q.I d (fun g a=>e g (.inr (.inr (.inl a)))),h.m.I d (fun g a=>e g (.inr (.inr (.inr a)))),h.nd⟩
theorem AD.below{a:Zh}{M:Value}{v:Vd}(h:AD w base S U T P L Q M rs v)(b:Zz w a):AD a base S U T P L Q M rs v:=
 h.stays (V:=[]) (Tn.of b) Yu
theorem AD.mono{M:Value}{v:Vd}(h:AD w base S U T P L Q M rs v)(a:base'<=base):AD w base' S U T P L Q M rs v:=
 ⟨h.s.mono a,h.u.mono a,h.N.mono a,h.q.mono a,h.m.mono a,h.nd⟩
theorem AD.same{M:Value}{v:Vd}(h:AD w base S U T P L Q M f v)(d:w.heap.size<=e.heap.size)(c:∀b,base<=b->b<w.heap.size->e.heap[b]?=w.heap[b]?):AD e base S U T P L Q M f v:=
 ⟨h.s.stays d (fun g a=>c g (h.s.W a).1 (h.s.W a).2),h.u.stays d (fun g a=>c g (h.u.W a).1 (h.u.W a).2),h.N.same c,h.q.stays d (fun g a=>c g (h.q.W a).1 (h.q.W a).2),h.m.stays d (fun g a=>c g (h.m.W a).1 (h.m.W a).2),h.nd⟩
theorem AD.of{c n1 n2:Nat}{M:Value}{i:Zj}{v:Vd}(A:Ao w c S v.ss)(C:Ao w c U v.A)(n:∀g,Al S=some g->Al U≠some g)(t:∀g,Al S=some g\/Al U=some g->g<n1)(h:AY w n1 T P L i v.ks v.ps v.ls)(d:c<=n1)(x:∀g∈BO T P L i,g<n2)(z:Ao w c Q v.F)(y:Ao w c M v.ms)(j:∀g,Al Q=some g\/Al M=some g->n2<=g)(E:n1<=n2)(l:∀g,Al Q=some g->Al M≠some g):AD w c S U T P L Q M i v:=by
 refine⟨A,C,h.mono d,z,y,?_⟩;have k:=h.nd;rw[Ft]at k;have r:=h.lo;unfold CK;generalize BO T P L i=B at *
 generalize Al S=s at *
 generalize Al U=u at *
 generalize Al Q=q at *
 generalize Al M=m at *
 have one:∀o:Option Nat,o.toList.Nodup:=fun o=>by cases o<;>simp
 simp only[List.nodup_append,List.mem_append,Option.mem_toList];refine⟨⟨one _,one _,fun a f b d e=>n a f (e▸d)⟩,⟨k,⟨one _,one _,fun a f b d e=>l a f (e▸d)⟩,fun a f b d e=> ?_⟩,fun a f b d e=> ?_⟩
 .have D:=x a f;have F:=j b d;omega
 .have D:=t a f;rcases d with d|d
  .have:=r b d;omega
  .have:=j b d;omega
def VA(v:Vd):Nat:=v.ss.length+v.A.length+Vz v.ks v.ps v.ls+v.F.length+v.ms.length
def Bh(v:Vd)(S U T P L Q M:Value):Zj:=[Zg v.wd,Zg v.lim,S,U,Zg v.O,Zg v.D,Zg v.G,Zg v.C,T,P,L,Zg v.K,Q,M,Zg v.R,Zg v.S,Zg v.ro]
def Wx(v:Vd)(L:Nat)(X:Zh)(cs:Zj):Prop:=
 ∃a:Va,cs=Bh v (.slice a.Z v.ss.length a.j) (.slice a.X v.A.length a.Y) (.slice a.T v.ks.length a.U) (.slice a.L v.ps.length a.Q) (.slice a.J v.ls.length a.P) (.slice a.g v.F.length a.qc) (.slice a.i v.ms.length a.mc)/\CF X L a v
def VB(v u:Vd)(lo N:Nat)(X:Zh)(cs:Zj):Prop:=
 (N<=X.heap.size/\lo<=X.heap.size)/\∃S U T P L Q M rs,cs=Bh v S U T P L Q M/\AD X lo S U T P L Q M rs u/\∀g∈CK S U T P L Q M rs,g<N
theorem AD.jb{a:Nat}{M:Value}{v:Vd}(h:AD X a S U T P L Q M q v):Wx v X.heap.size X (Bh v S U T P L Q M):=by obtain⟨r,s,rfl,b⟩:=h.s.row;obtain⟨x,y,rfl,c⟩:=h.u.row;obtain⟨t,u,l,m,g,i,rfl,rfl,rfl,d⟩:=h.N.rows;obtain⟨n,o,rfl,e⟩:=h.q.row;obtain⟨j,k,rfl,f⟩:=h.m.row;exact⟨⟨r,s,x,y,t,u,l,m,g,i,n,o,j,k⟩,rfl,⟨b,c,d,e,f⟩⟩
theorem AY.at{w':Zh}{c:Zj}{f:List Pd}{e:List Ld}(h:AY w base T P L c ks f e)(b:∀g∈BO T P L c,w'.heap[g]?=w.heap[g]?):AY w' base T P L c ks f e:=
 ⟨h.len,As h.aj (fun g a=>b g (by unfold BO;simp[a])),fun i k r j d=>As (h.B i k r j d) (fun g a=>b g (by unfold BO;simp only[List.mem_append,List.mem_filterMap];exact .inr (.inr (.inr ⟨r,Zs d,a⟩)))),As h.pins (fun g a=>b g (by unfold BO;simp[a])),As h.aq (fun g a=>b g (by unfold BO;simp[a])),h.nd⟩
theorem AD.af{lo:Nat}{M:Value}{u:Vd}(b:AD X lo S U T P L Q M d u)(h:∀g∈CK S U T P L Q M d,g<N)(f:X.heap.size<=c.heap.size)(j:∀q,lo<=q->q<N->c.heap[q]?=X.heap[q]?):AD c lo S U T P L Q M d u:=by
 have e:∀g∈CK S U T P L Q M d,c.heap[g]?=X.heap[g]?:=fun g a=>j g (b.lo g a) (h g a);have i:∀g∈BO T P L d,c.heap[g]?=X.heap[g]?:=fun g a=>e g (by unfold CK;simp only[List.mem_append];exact .inr (.inl a));unfold CK at e;simp only[List.mem_append,Option.mem_toList]at e
 exact⟨b.s.stays f (fun g a=>e g (.inl (.inl a))),b.u.stays f (fun g a=>e g (.inl (.inr a))),b.N.at i,b.q.stays f (fun g a=>e g (.inr (.inr (.inl a)))),b.m.stays f (fun g a=>e g (.inr (.inr (.inr a)))),b.nd⟩
theorem VB.af{v u:Vd}{lo:Nat}{a:Zh}{c:Zj}(h:VB v u lo N X c)(b:X.heap.size<=a.heap.size)(g:∀q,lo<=q->q<N->a.heap[q]?=X.heap[q]?):VB v u lo N a c:=by obtain⟨e,S,U,T,P,L,Q,M,i,rfl,f,d⟩:=h;exact⟨⟨Zm e.1 b,Zm e.2 b⟩,S,U,T,P,L,Q,M,i,rfl,f.af d b g,d⟩
theorem Fw.ir{v:Vd}(h:Fw v):1000+VA v<=90000000:=by unfold VA Vz;have:=h.s;have:=h.t;have:=h.N.k;have:=h.N.p;have:=h.N.l;have:=h.r.q;have:=h.r.m;have:=h.rn;omega
theorem BP.grown{g:Zh}{q:Nat}{e d c f:Int}{M:Value}(h:BP w b e Q M d c f)(a:w.grownBy g (some q))(o:b≠q):BP g b e Q M d c f:=by obtain⟨i,j,k,l,m,n,s⟩:=h;have r:=a.size;exact⟨a.cell i Yt,a.cell j Yt,a.cell k Yt,a.cell l Yt,a.cell m Yt,a.cell n Yt,Yv⟩
theorem Ez(r j i s:Int)(g h D B:Nat)(a d:Zl)(w:Zh)(hq:Ab w w.heap.size (some ⟨g,0,none⟩) a)(hm:Ab w w.heap.size (some ⟨h,0,none⟩) d)(hf:Qn a d):
 Calls prog 134 #[.agg (Xy r (some ⟨g,0,none⟩) a.length D (some ⟨h,0,none⟩) d.length B j i s)] w fun e X=>∃x l y C,e=.returned (.agg (Xy r (some ⟨x,0,none⟩) a.length l (some ⟨y,0,none⟩) d.length C j i s))/\
  X.ownsRow w.heap.size 9 1 (Yz x a.length l) a.length (a.map Value.string)/\X.ownsRow w.heap.size 9 1 (Yz y d.length C) d.length (d.map Value.string)/\x≠y/\Zz w X:=by
 have zF:=hf.q;have zE:=hf.m;obtain⟨i0,hi,R,S,T⟩:=info_parts BW;obtain⟨W,q⟩:∃W,W=((w.alloc (.cells (Xy r (some ⟨g,0,none⟩) a.length D (some ⟨h,0,none⟩) d.length B j i s) 78)).alloc (.cells Xx 78)).alloc (.cells (Xy r (some ⟨g,0,none⟩) a.length D (some ⟨h,0,none⟩) d.length B j i s) 78):=⟨_,rfl⟩;have u:Below w.heap.size w W:=by rw[q];exact((Zy).alloc Yu _).alloc Yt _
 have x2:BP W (w.heap.size+1+1) r (Yz g a.length D) (Yz h d.length B) j i s:=by rw[q];exact⟨by simp[go_sem],by simp[go_sem],by simp[go_sem],by simp[go_sem],by simp[go_sem],by simp[go_sem],Yu⟩
 have x1:BP W (w.heap.size+1) 0 Zb Zb 0 0 0:=by rw[q];exact⟨by simp[go_sem],by simp[go_sem],by simp[go_sem],by simp[go_sem],by simp[go_sem],by simp[go_sem],Yn⟩
 have x0:BP W w.heap.size r (Yz g a.length D) (Yz h d.length B) j i s:=by rw[q];exact⟨by simp[go_sem],by simp[go_sem],by simp[go_sem],by simp[go_sem],by simp[go_sem],by simp[go_sem],Yn⟩
 have f2:∀o,W.frozen? ⟨w.heap.size+1+1,o,none⟩=false:=fun o=>by rw[q];simp[go_sem]
 have f1:∀o,W.frozen? ⟨w.heap.size+1,o,none⟩=false:=fun o=>by rw[q];simp[go_sem]
 have zC:W.heap.size=w.heap.size+3:=by rw[q];simp
 have Z:=Yw q;clear q;go_enter func134,ntmps134;go_wp2_with (first
  |(at_builtin;refine wpList_append_own _ rfl _ _ 29 rfl (w.heap.size+3) 9 i0 Zc 1 16 underlying29 hi R S T rfl Yr _ 0 (([]:Zl).map Value.string) rfl ?d0 ⟨g,0,none⟩ a.length D (a.map Value.string) rfl ?d1 ?d2 ?d3 ?d4 ?d5 ?d6 ?_)
  |go_in)
 all_goals try rw[<-Z.o]
 case d0=>
  have:=World.ownsRow_lit (base:=w.heap.size+3) (e:=9) (size:=1) W #[] 0 Yv Yp rfl;rw[zC]at this;exact this
 case d1=>simp
 case d2=>exact(hq.below (u.alloc u.size _)).cz
 case d3=>exact SF a
 case d4=>unfold maxLen;omega
 case d5=>omega
 case d6=>simp;omega
 intro v1 m z F M;have G:∃x l,v1=Yz x a.length l:=by have:=Ko z M;simpa using this
 obtain⟨x,l,rfl⟩:=G;try simp only[Nat.zero_add,List.map_nil,List.nil_append]at z
 have I:=F.size;have b:(W.alloc (.cells #[] 9)).grownBy m (some (w.heap.size+3)):=by simpa [Value.ownBlock]using F
 have f:Below W.heap.size W (W.alloc (.cells #[] 9)):=Zy;have y0:=(x0.below f).grown b Yv;have y1:=(x1.below f).grown b Yv;have y2:=(x2.below f).grown b Yv;have e2:∀o,m.frozen? ⟨w.heap.size+1+1,o,none⟩=false:=fun o=>(b.frozen_far ⟨w.heap.size+1+1,o,none⟩ Yn Yn).trans ((f.frozen (p:=⟨w.heap.size+1+1,o,none⟩) Yn).trans (f2 o))
 have e1:∀o,m.frozen? ⟨w.heap.size+1,o,none⟩=false:=fun o=>(b.frozen_far ⟨w.heap.size+1,o,none⟩ Yn Yn).trans ((f.frozen (p:=⟨w.heap.size+1,o,none⟩) Yn).trans (f1 o));have J:Below w.heap.size w m:=(u.trans (f.mono u.size)).grown b Yt (fun k U=>by cases U;omega);have lx:=z.lt x rfl;simp at I;obtain⟨a0,a1,a2,a3,a4,a5,a6⟩:=y0
 obtain⟨b0,b1,b2,b3,b4,b5,b6⟩:=y1;obtain⟨c0,c1,c2,c3,c4,c5,c6⟩:=y2;clear x0 x1 x2 f1 f2 f F b M Z u;obtain⟨V,n⟩:∃V,V=m.setCell (Zd (w.heap.size+1+1) 1) (Yz x a.length l):=⟨_,rfl⟩;have t:Below w.heap.size w V:=by rw[n];exact J.setCell (p:=⟨w.heap.size+1+1,1,none⟩) Yn _
 have zB:V.heap.size=m.heap.size:=by rw[n];simp
 have O:V.ownsRow (w.heap.size+3) 9 1 (Yz x a.length l) a.length (a.map Value.string):=by rw[n];exact ownsRow_setCell_below z Yu _
 have r1:BP V (w.heap.size+1) 0 Zb Zb 0 0 0:=by rw[n];exact⟨by simp[go_sem,b0],by simp[go_sem,b1],by simp[go_sem,b2],by simp[go_sem,b3],by simp[go_sem,b4],by simp[go_sem,b5],by simpa using b6⟩
 have r2:BP V (w.heap.size+1+1) r (Yz x a.length l) (Yz h d.length B) j i s:=by rw[n];exact⟨by simp[go_sem,c0],by simp[go_sem,c1],by simp[go_sem,c2],by simp[go_sem,c3],by simp[go_sem,c4],by simp[go_sem,c5],by simpa using c6⟩
 have k1:∀o,V.frozen? ⟨w.heap.size+1,o,none⟩=false:=fun o=>by rw[n];simp[go_sem,e1]
 have k2:∀o,V.frozen? ⟨w.heap.size+1+1,o,none⟩=false:=fun o=>by rw[n];simp[go_sem,e2]
 have Y:=Yw n;clear n;go_wp2_with (first
  |(at_builtin;refine wpList_append_own _ rfl _ _ 29 rfl m.heap.size 9 i0 Zc 1 16 underlying29 hi R S T rfl Yr _ 0 (([]:Zl).map Value.string) rfl ?e0 ⟨h,0,none⟩ d.length B (d.map Value.string) rfl ?e1 ?e2 ?e3 ?e4 ?e5 ?e6 ?_)
  |go_in)
 all_goals try rw[<-Y.o]
 case e0=>
  have:=World.ownsRow_lit (base:=m.heap.size) (e:=9) (size:=1) V #[] 0 Yv Yp rfl;rw[zB]at this;exact this
 case e1=>simp
 case e2=>exact(hm.below (t.alloc t.size _)).cz
 case e3=>exact SF d
 case e4=>unfold maxLen;omega
 case e5=>omega
 case e6=>simp;omega
 intro v2 E A L N;have G:∃y C,v2=Yz y d.length C:=by have:=Ko A N;simpa using this
 obtain⟨y,C,rfl⟩:=G;try simp only[Nat.zero_add,List.map_nil,List.nil_append]at A
 have c:(V.alloc (.cells #[] 9)).grownBy E (some m.heap.size):=by simpa [Value.ownBlock]using L
 have f:Below V.heap.size V (V.alloc (.cells #[] 9)):=Zy;have s1:=(r1.below f).grown c Yv;have s2:=(r2.below f).grown c Yv;have t2:∀o,E.frozen? ⟨w.heap.size+1+1,o,none⟩=false:=fun o=>(c.frozen_far ⟨w.heap.size+1+1,o,none⟩ Yn Yn).trans ((f.frozen (p:=⟨w.heap.size+1+1,o,none⟩) Yn).trans (k2 o))
 have t1:∀o,E.frozen? ⟨w.heap.size+1,o,none⟩=false:=fun o=>(c.frozen_far ⟨w.heap.size+1,o,none⟩ Yn Yn).trans ((f.frozen (p:=⟨w.heap.size+1,o,none⟩) Yn).trans (k1 o));have K:Below w.heap.size w E:=(t.trans (f.mono t.size)).grown c Yt (fun k U=>by cases U;omega);have ly:=A.lt y rfl
 have P:E.ownsRow (w.heap.size+3) 9 1 (Yz x a.length l) a.length (a.map Value.string):=(O.alloc _).kept c (.inr (by simp[Value.ownBlock];omega));have Q:=A.mono (show w.heap.size+3<=m.heap.size by omega);have zA:x≠y:=Yv
 have H:=Yw (Zn P (Zn Q (Zn zA K)));obtain⟨m0,m1,m2,m3,m4,m5,m6⟩:=s1;obtain⟨n0,n1,n2,n3,n4,n5,n6⟩:=s2;clear a0 a1 a2 a3 a4 a5 a6 b0 b1 b2 b3 b4 b5 b6 c0 c1 c2 c3 c4 c5 c6 P Q A L c f r1 r2 k1 k2 O z t J K Y e1 e2 N;go_wp2
 refine bodyPost_ret (v:=.agg (Xy r (some ⟨x,0,none⟩) a.length l (some ⟨y,0,none⟩) d.length C j i s)) (by simp[results,results134,go_sem,m0,m1,m2,m3,m4,m5]) rfl ⟨x,l,y,C,rfl,?_,?_,H.o.2.2.1,?_⟩
 .refine World.ownsRow.mono ?_ (show w.heap.size<=w.heap.size+3 by omega)
  iterate 7 (refine ownsRow_setCell_below ?_ Yu _)
  exact H.o.1
 .refine World.ownsRow.mono ?_ (show w.heap.size<=w.heap.size+3 by omega)
  iterate 7 (refine ownsRow_setCell_below ?_ Yu _)
  exact H.o.2.1
 .iterate 7 (refine Below.setCell ?_ Yn _)
  exact H.o.2.2.2
section
open Classical in
end
section
attribute [local go_sem↓] Go.wp_at_zero Go.wp_at_succ
def TS(W:Zh)(b c:Nat)(wd:Value)(s t r:Value)(w':Zh):Prop:=
 w'.cell? (Zd b 0)=some wd/\w'.cell? (Zd c 0)=some s/\w'.cell? (Zd c 2)=some t/\w'.cell? (Zd c 3)=some r/\Zz W w'
theorem TS.af{W d:Zh}{c:Nat}{g r:Value}(h:TS W b c g s t r e)(a:Zz e d)(m:b<W.heap.size)(n:c<W.heap.size):TS W b c g s t r d:=by obtain⟨i,j,k,l,f⟩:=h;have:=f.size;exact⟨(a.cell (p:=⟨b,0,none⟩) Yt).trans i,(a.cell (p:=⟨c,0,none⟩) Yt).trans j,(a.cell (p:=⟨c,2,none⟩) Yt).trans k,(a.cell (p:=⟨c,3,none⟩) Yt).trans l,f.trans (a.mono this)⟩
theorem TS.drew{W a:Zh}{c:Nat}{d r:Value}(h:TS W b c d s t r a):TS W b c d s t r a.drew:=⟨h.1,h.2.1,h.2.2.1,h.2.2.2.1,h.2.2.2.2.drew⟩
theorem TS.new{wr:Zh}{ty:TypeId}{c:Int}(s b t r:Value)(d:wr.cell? (Zd (w.heap.size) 0)=some (Zg c))(e:w.heap.size<wr.heap.size):
 Below wr.heap.size wr ((wr.alloc (.cells #[s,b,t,r] ty)).drewN n)/\((wr.alloc (.cells #[s,b,t,r] ty)).drewN n).heap.size=wr.heap.size+1/\
  TS ((wr.alloc (.cells #[s,b,t,r] ty)).drewN n) w.heap.size wr.heap.size (Zg c) s t r ((wr.alloc (.cells #[s,b,t,r] ty)).drewN n):=by
 have a:Below wr.heap.size wr ((wr.alloc (.cells #[s,b,t,r] ty)).drewN n):=AM (Zy) _;refine⟨a,by rw[Ic];simp,(a.cell (p:=⟨w.heap.size,0,none⟩) e).trans d,?_,?_,?_,Below.refl _ _⟩
 all_goals rw[Ib];simp
theorem KE(c now l f:Int)(a:Zk)(I:Nat)(P L:Value)(d:List Kd)(w:Zh)(B:AI w w.heap.size a d)(hm:Fm d)(hl:d.length<=1048576)(T:∀k∈d,k.B.length<=1048576)(h1:1<=c)(h8:c<=8):
 Calls prog 29 #[.agg #[Zg c,Zg now,Zg l,Zg f,.slice a d.length I,P,L]] w fun e s=>∃b,e=.returned (.bool b)/\(b=true↔d.length<=600/\∀(i:Nat) k,d[i]?=some k->DO c d i k)/\Zz w s:=by
 have zC:Below w.heap.size w (w.alloc (.cells #[Zg c,Zg now,Zg l,Zg f,.slice a d.length I,P,L] 27)):=Zy;by_cases hn:600<d.length
 .go_enter func29,ntmps29;go_wp2;go_ret;exact⟨_,rfl,by simp;intro h;omega,zC⟩
 .have Y:=Ah.new w c now l f (.slice a d.length I) P L 27;go_enter func29,ntmps29;go_wp2
  go_loopw [12] (fun i wr=>∃k:Nat,k<=d.length/\i=Zg k/\Zz w wr/\Ah wr w.heap.size c now l f (.slice a d.length I) P L/\Hid (∀j x,j<k->d[j]?=some x->DO c d j x)) (fun i _=>d.length -(intOf i).toNat)
  case atStart=>exact⟨0,Nat.zero_le _,rfl,zC,Y,fun j x h=>by omega⟩
  case round=>
   obtain⟨k,hk,rfl,g,zA,o⟩:=hrel;by_cases hlt:k<d.length
   .obtain⟨b,off,ha,hb,X⟩:=(B.below g).at hlt;subst ha;have D:d[k]?=some d[k]:=Zv hlt;obtain⟨V,W,c2,r,t,c3,Q⟩:=X k _ D;obtain⟨Z,x1,x2,x3,x4,x5,x6,J⟩:=zA;have v:=List.getElem_mem hlt;have G:=hm.E _ v;have H:=T _ v
    match k,hk,hlt,o,D,V,W,c2,c3,Q,G,H with
    |0,hk,hlt,o,D,V,W,c2,c3,Q,G,H=>
     have C:=Yw D;clear X B hm T v D;simp only[Nat.zero_mul,Nat.add_zero]at V W c2 c3;generalize d[0]=x at *
     go_wp2;go_quiet (fail);go_wp2;obtain⟨z,z1,R⟩:=TS.new (n:=nq) (ty:=37) (.string x.sum) (Zg x.born) (.string x.E) (.slice r x.B.length t) Z J;generalize hW1:(wr.alloc (Obj.cells #[Value.string x.sum,Value.int IntKind.i64 x.born,Value.string x.E,Value.slice r x.B.length t] 37)).drewN nq=W1 at *
     have E:Ab W1 W1.heap.size r x.B:=(Q.mono g.size).M z;have S:Ah W1 w.heap.size c now l f (.slice (some ⟨b,off,none⟩) d.length I) P L:=Ah.af ⟨Z,x1,x2,x3,x4,x5,x6,J⟩ z J;obtain⟨t0,t1,t2,t3,t4⟩:=R;have q0:=Ag.cell t0 Yv;have q1:=Ag.cell t1 Yv;have q2:=Ag.cell t2 Yv;have q3:=Ag.cell t3 Yv;have zF:=Ag.ne W1
     have O:∀n:Ag W1,Calls prog 54 #[.agg #[.string x.E,.slice r x.B.length t],Zg c] n.w fun e s=>e=.returned (.bool (Ay x.E x.B c))/\Below n.w.heap.size n.w s:=fun n=>II x.E r t x.B c _ (E.M n.h) H G
     have M:∀n:Ag W1,Calls prog 51 #[.agg #[.string x.E,.slice r x.B.length t],Zg c] n.w fun e s=>e=.returned (.string (AB x.E x.B c))/\Below n.w.heap.size n.w s:=fun n=>IW x.E r t x.B c _ (E.M n.h) H G;have N:∀n:Ag W1,Calls prog 55 #[.string (AB x.E x.B c),Zg c] n.w fun e s=>e=.returned (.string (sumOf x c))/\Below n.w.heap.size n.w s:=fun n=>Nk _ c _ (Dq _ _ _) h1 h8;have A:=Yw (Zn M N)
     have u:=Yw O;clear M N O;generalize AB x.E x.B c=fx at *
     generalize hsx:sumOf x c=sx at *
     have m:=g.trans (z.mono g.size);cases hok:Ay x.E x.B c with
     |false=>
      rw[hok]at u;refine Aj Ys Ys ?_
      repeat (go_big_quiet_step (exact Ag.calls (u.o _)))
      refine wpQuiet_nil ?_;intro n;go_wp2;go_ret;refine⟨_,rfl,?_,m.trans (n.h.mono m.size)⟩;simp;intro _;exact⟨_,_,C.o,fun h=>by rw[h.ok]at hok;cases hok⟩
     |true=>
      rw[hok]at u;by_cases hs:x.sum=sx
      .have U:(x.sum.toList !=sx.toList)=false:=by rw[hs];simp
       have HA:Hid (∀q y,q<0+1->d[q]?=some y->DO c d q y):=by
        intro q y hj F;rcases Nat.lt_or_ge q (0)with K|K
        .exact o.o q y K F
        .obtain rfl:q=0:=Yv
         rw[C.o]at F;cases F;exact⟨hok,by rw[hsx];exact hs,fun j p h=>by omega⟩
       refine Aj Ys Ys ?_
       repeat (go_big_quiet_step (first|exact Ag.calls (u.o _)|exact Ag.calls (A.o.1 _)|exact Ag.calls (A.o.2 _)))
       refine wpQuiet_nil ?_;intro n;go_wp2;exact⟨⟨0+1,Yv,Yo,m.trans (n.h.mono m.size),S.af n.h Yv,HA⟩,by simp[intOf];omega⟩
      .have U:(x.sum.toList !=sx.toList)=true:=by simp[By hs,bne]
       have zB:=By hs;refine Aj Ys Ys ?_
       repeat (go_big_quiet_step (first|exact Ag.calls (u.o _)|exact Ag.calls (A.o.1 _)|exact Ag.calls (A.o.2 _)))
       refine wpQuiet_nil ?_;intro n;go_wp2;go_ret;refine⟨_,rfl,?_,m.trans (n.h.mono m.size)⟩;simp;intro _;exact⟨_,_,C.o,fun h=>hs (by rw[<-hsx];exact h.sum)⟩
    |j+1,hk,hlt,o,D,V,W,c2,c3,Q,G,H=>
     have C:=Yw D;have HP:Hid (d[j]?=some d[j]):=Zv Yv;obtain⟨d0,_,_,_⟩:=X j _ HP.o;clear X B hm T v D;generalize d[j+1]=x at *
     generalize d[j]=p at *
     have zJ:IntKind.i64.wrap (j:Int)=(j:Int):=wrap_small Yv Yv;have zH:(0:Int)<=(j:Int):=Yv
     have zG:b<wr.heap.size:=Yv
     have zI:(j:Int)<(d.length:Int):=Yv
     cases hless:Op.bytesLess p.sum.toList x.sum.toList with
     |false=>go_wp2;go_quiet (fail);go_wp2;go_ret;refine⟨_,rfl,?_,AM (g.alloc g.size _) _⟩;simp;intro _;exact⟨_,_,C.o,fun h=>by have:=h.up j p rfl HP.o;unfold less at this;rw[hless]at this;cases this⟩
     |true=>
      go_wp2;go_quiet (fail);go_wp2;obtain⟨z,z1,R⟩:=TS.new (n:=nq) (ty:=37) (.string x.sum) (Zg x.born) (.string x.E) (.slice r x.B.length t) Z J;generalize hW1:(wr.alloc (Obj.cells #[Value.string x.sum,Value.int IntKind.i64 x.born,Value.string x.E,Value.slice r x.B.length t] 37)).drewN nq=W1 at *
      have E:Ab W1 W1.heap.size r x.B:=(Q.mono g.size).M z;have S:Ah W1 w.heap.size c now l f (.slice (some ⟨b,off,none⟩) d.length I) P L:=Ah.af ⟨Z,x1,x2,x3,x4,x5,x6,J⟩ z J;obtain⟨t0,t1,t2,t3,t4⟩:=R;have q0:=Ag.cell t0 Yv;have q1:=Ag.cell t1 Yv;have q2:=Ag.cell t2 Yv;have q3:=Ag.cell t3 Yv;have zF:=Ag.ne W1
      have O:∀n:Ag W1,Calls prog 54 #[.agg #[.string x.E,.slice r x.B.length t],Zg c] n.w fun e s=>e=.returned (.bool (Ay x.E x.B c))/\Below n.w.heap.size n.w s:=fun n=>II x.E r t x.B c _ (E.M n.h) H G
      have M:∀n:Ag W1,Calls prog 51 #[.agg #[.string x.E,.slice r x.B.length t],Zg c] n.w fun e s=>e=.returned (.string (AB x.E x.B c))/\Below n.w.heap.size n.w s:=fun n=>IW x.E r t x.B c _ (E.M n.h) H G;have N:∀n:Ag W1,Calls prog 55 #[.string (AB x.E x.B c),Zg c] n.w fun e s=>e=.returned (.string (sumOf x c))/\Below n.w.heap.size n.w s:=fun n=>Nk _ c _ (Dq _ _ _) h1 h8;have A:=Yw (Zn M N)
      have u:=Yw O;clear M N O;generalize AB x.E x.B c=fx at *
      generalize hsx:sumOf x c=sx at *
      have m:=g.trans (z.mono g.size);cases hok:Ay x.E x.B c with
      |false=>
       rw[hok]at u;refine Aj Ys Ys ?_
       repeat (go_big_quiet_step (exact Ag.calls (u.o _)))
       refine wpQuiet_nil ?_;intro n;go_wp2;go_ret;refine⟨_,rfl,?_,m.trans (n.h.mono m.size)⟩;simp;intro _;exact⟨_,_,C.o,fun h=>by rw[h.ok]at hok;cases hok⟩
      |true=>
       rw[hok]at u;by_cases hs:x.sum=sx
       .have U:(x.sum.toList !=sx.toList)=false:=by rw[hs];simp
        have HA:Hid (∀q y,q<(j+1)+1->d[q]?=some y->DO c d q y):=by
         intro q y hj F;rcases Nat.lt_or_ge q ((j+1))with K|K
         .exact o.o q y K F
         .obtain rfl:q=(j+1):=Yv
          rw[C.o]at F;cases F;exact⟨hok,by rw[hsx];exact hs,fun j2 p2 h zE=>by cases h;rw[HP.o]at zE;cases zE;exact hless⟩
        refine Aj Ys Ys ?_
        repeat (go_big_quiet_step (first|exact Ag.calls (u.o _)|exact Ag.calls (A.o.1 _)|exact Ag.calls (A.o.2 _)))
        refine wpQuiet_nil ?_;intro n;go_wp2;exact⟨⟨(j+1)+1,Yv,Yo,m.trans (n.h.mono m.size),S.af n.h Yv,HA⟩,by simp[intOf];omega⟩
       .have U:(x.sum.toList !=sx.toList)=true:=by simp[By hs,bne]
        have zB:=By hs;refine Aj Ys Ys ?_
        repeat (go_big_quiet_step (first|exact Ag.calls (u.o _)|exact Ag.calls (A.o.1 _)|exact Ag.calls (A.o.2 _)))
        refine wpQuiet_nil ?_;intro n;go_wp2;go_ret;refine⟨_,rfl,?_,m.trans (n.h.mono m.size)⟩;simp;intro _;exact⟨_,_,C.o,fun h=>hs (by rw[<-hsx];exact h.sum)⟩
   .go_wp2;go_ret;exact⟨_,rfl,by simp;exact⟨Yv,fun i x Y=>o.o i x (by have:=(Zw Y).1;omega) Y⟩,g⟩
end
end Go.Proofs.YtmjlkgpekcnacaaGreat
