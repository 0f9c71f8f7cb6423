import Derived.Test.YtcfjcdpkpiidkaaGreatX16
import Derived.Test.YtcfjcdpkpiidkaaGreatX02
import Derived.Test.YtcfjcdpkpiidkaaGreatX17
import Derived.Test.YtcfjcdpkpiidkaaGreatX15
set_option maxRecDepth 100000
set_option maxHeartbeats 16000000
namespace Go.Proofs.YtcfjcdpkpiidkaaGreat
open ChangeShapes WideShapes ChangeAt RowKit _root_.Go.Proofs.Tryz
variable{wd now given births:Int}{x s:Zi}{a ms:Zl}{b r:Rs}{w:Zh}{B:Nat}{k u:Kd}{d ks:List Kd}{ps:List Pd}{ls:List Ld}
def r0:Rs:=⟨⟨#[]⟩,0,0,0,0,[],[],[]⟩
def JP(wd:Int)(r:Rs)(x:Zi)(r':Rs):Prop:=(Bl x wd).ok=true/\Fe wd r.E r.G r.C r.ks r.ps r.ls (Bl x wd).k (Bl x wd).sum (Bl x wd).name (Bl x wd).n (Bl x wd).t (Bl x wd).ss r'
def WM(wd:Int)(r:Rs)(x:Zi):Prop:=(Bl x wd).ok=false\/∃c a b,Ja wd r.E r.G r.C r.ks r.ps r.ls (Bl x wd).k (Bl x wd).sum (Bl x wd).name (Bl x wd).n (Bl x wd).t (Bl x wd).ss c a b
def Cx(wd:Int):Rs->Zl->Rs->Prop
 |r,[],r'=>r'=r
 |r,x::xs,r'=>∃r1,JP wd r x r1/\Cx wd r1 xs r'
def Lg(wd:Int)(xs:Zl)(n:Nat):Prop:=∃k r x,n=k+1/\xs[k]?=some x/\Cx wd r0 (xs.take k) r/\WM wd r x
def Rs.ok(wd:Int)(r:Rs):Prop:=Gr wd r.E r.G r.C r.ks r.ps r.ls
theorem Cx.snoc{a:Rs}(c:JP wd a x b):∀{xs:Zl} {r:Rs},Cx wd r xs a->Cx wd r (xs++[x]) b
 |[],r,h=>by obtain rfl:a=r:=h;exact⟨b,c,rfl⟩
 |y::ys,r,h=>by obtain⟨f,d,e⟩:=h;exact⟨f,d,Cx.snoc c e⟩
theorem JP.ft{a:Rs}(h:JP wd r x a)(k:JP wd r x b):a=b:=h.2.ft k.2
theorem JP.ok{a:Rs}(h:JP wd r x a)(b:r.ok wd):a.ok wd:=Gr.step b (GK h.1).1 h.2
theorem JP.not{f:Rs}(h:JP wd r x f)(d:r.ok wd):¬WM wd r x:=by
 rintro(e|⟨c,a,b,e⟩)
 .rw[h.1]at e;cases e
 .exact e.not d.bt.nd h.2
theorem Cx.ft:∀{xs:Zl} {r a b:Rs},Cx wd r xs a->Cx wd r xs b->a=b
 |[],r,a,b,h,k=>by have c:=h;have d:=k;rw[c,d]
 |x::xs,r,a,b,h,k=>by obtain⟨g,c,d⟩:=h;obtain⟨i,e,f⟩:=k;obtain rfl:=c.ft e;exact Cx.ft d f
theorem Cx.ok:∀{xs:Zl} {r r':Rs},Cx wd r xs r'->r.ok wd->r'.ok wd
 |[],r,r',h,hr=>by obtain rfl:r'=r:=h;exact hr
 |x::xs,r,r',h,hr=>by obtain⟨c,a,b⟩:=h;exact Cx.ok b (a.ok hr)
theorem Cx.at:∀{xs:Zl} {r r':Rs},Cx wd r xs r'->∀{k:Nat} {x:Zi},xs[k]?=some x->∃a b,Cx wd r (xs.take k) a/\JP wd a x b
 |[],r,r',h,k,x,hx=>by simp at hx
 |y::ys,r,r',h,k,x,hx=>by
  obtain⟨d,c,e⟩:=h;cases k with
  |zero=>simp at hx;subst hx;exact⟨r,d,rfl,c⟩
  |succ k=>obtain⟨a,b,f,g⟩:=Cx.at e (k:=k) (x:=x) (by simpa using hx);exact⟨a,b,⟨d,c,f⟩,g⟩
theorem Fs(a:1<=wd)(b:wd<=8):r0.ok wd:=Gr.zero a b
theorem Lg.not{b:Zl}{n:Nat}(c:1<=wd)(g:wd<=8)(h:Lg wd b n):¬Cx wd r0 b r:=fun i=>by obtain⟨k,l,x,rfl,j,a,d⟩:=h;obtain⟨m,o,e,f⟩:=i.at j;obtain rfl:=a.ft e;exact f.not (a.ok (Fs c g)) d
def PD(wd:Int)(xs:Zl)(x:An):Prop:=
 (¬((1<=wd/\wd<=8)/\xs.length<=4000)/\x=⟨1,0,0,0,0,0,⟨#[]⟩,⟨#[]⟩,⟨#[]⟩,[],[],[]⟩)\/
 (((1<=wd/\wd<=8)/\xs.length<=4000)/\(
   (∃n:Nat,Lg wd xs n/\x=⟨7,0,0,0,0,n,⟨#[]⟩,⟨#[]⟩,⟨#[]⟩,[],[],[]⟩)\/
   (∃r,Cx wd r0 xs r/\x=⟨0,wd,r.E,r.G,r.C,0,⟨#[]⟩,⟨#[]⟩,⟨#[]⟩,r.ks,r.ps,r.ls⟩)))
structure Vd where
 wd:Int
 lim:Int
 ss:Zl
 A:Zl
 P:Int
 E:Int
 G:Int
 C:Int
 ks:List Kd
 ps:List Pd
 ls:List Ld
 H:Int
 D:Zl
 ms:Zl
 O:Int
 M:Int
 ro:Int
structure Va where
 g:Zk
 sc:Nat
 X:Zk
 Z:Nat
 U:Zk
 W:Nat
 N:Zk
 T:Nat
 K:Zk
 Q:Nat
 i:Zk
 qc:Nat
 j:Zk
 mc:Nat
abbrev Xq(v:Vd)(a:Va):Array Value:=#[.int .i64 v.wd,.int .i64 v.lim,.slice a.g v.ss.length a.sc,.slice a.X v.A.length a.Z,.int .i64 v.P,.int .i64 v.E,.int .i64 v.G,.int .i64 v.C,.slice a.U v.ks.length a.W,.slice a.N v.ps.length a.T,.slice a.K v.ls.length a.Q,.int .i64 v.H,.slice a.i v.D.length a.qc,.slice a.j v.ms.length a.mc,.int .i64 v.O,.int .i64 v.M,.int .i64 v.ro]
abbrev Xn(v:Vd)(a:Va):List Value:=[.int .i64 v.wd,.int .i64 v.lim,.slice a.g v.ss.length a.sc,.slice a.X v.A.length a.Z,.int .i64 v.P,.int .i64 v.E,.int .i64 v.G,.int .i64 v.C,.slice a.U v.ks.length a.W,.slice a.N v.ps.length a.T,.slice a.K v.ls.length a.Q,.int .i64 v.H,.slice a.i v.D.length a.qc,.slice a.j v.ms.length a.mc,.int .i64 v.O,.int .i64 v.M,.int .i64 v.ro]
abbrev Xm(v:Vd)(a:Option Addr)(b:Nat)(c:Option Addr)(d:Nat)(e:Option Addr)(f:Nat)(g:Option Addr)(h:Nat)(i:Option Addr)(j:Nat)(k:Option Addr)(l:Nat)(m:Option Addr)(n:Nat):List Value:=[.int .i64 v.wd,.int .i64 v.lim,.slice a v.ss.length b,.slice c v.A.length d,.int .i64 v.P,.int .i64 v.E,.int .i64 v.G,.int .i64 v.C,.slice e v.ks.length f,.slice g v.ps.length h,.slice i v.ls.length j,.int .i64 v.H,.slice k v.D.length l,.slice m v.ms.length n,.int .i64 v.O,.int .i64 v.M,.int .i64 v.ro]
abbrev Xl(v:Vd)(a:Option Addr)(b:Nat)(c:Option Addr)(d:Nat)(e:Option Addr)(f:Nat)(g:Option Addr)(h:Nat)(i:Option Addr)(j:Nat)(k:Option Addr)(l:Nat)(m:Option Addr)(n:Nat):Array Value:=#[.int .i64 v.wd,.int .i64 v.lim,.slice a v.ss.length b,.slice c v.A.length d,.int .i64 v.P,.int .i64 v.E,.int .i64 v.G,.int .i64 v.C,.slice e v.ks.length f,.slice g v.ps.length h,.slice i v.ls.length j,.int .i64 v.H,.slice k v.D.length l,.slice m v.ms.length n,.int .i64 v.O,.int .i64 v.M,.int .i64 v.ro]
structure CO (w:Zh) (B:Nat) (a:Va) (v:Vd):Prop where
 s:Ab w B a.g v.ss
 t:Ab w B a.X v.A
 R:AW w B a.U a.N a.K v.ks v.ps v.ls
 q:Ab w B a.i v.D
 m:Ab w B a.j v.ms
theorem CO.ah{c:Zh}{a:Va}{v:Vd}(h:CO w B a v)(b:Below B w c):CO c B a v:=
 ⟨h.s.below b,h.t.below b,h.R.ah b,h.q.below b,h.m.below b⟩
theorem CO.mono{c:Nat}{a:Va}{v:Vd}(h:CO w B a v)(b:B<=c):CO w c a v:=
 ⟨h.s.mono b,h.t.mono b,h.R.mono b,h.q.mono b,h.m.mono b⟩
theorem CO.L{b:Zh}{a:Va}{v:Vd}(h:CO w w.heap.size a v)(c:Zz w b):CO b b.heap.size a v:=(h.ah c).mono c.size
structure TQ (a:Va) (v:Vd):Prop where
 s:a.g=none->v.ss.length=0/\a.sc=0
 t:a.X=none->v.A.length=0/\a.Z=0
 m:v.ms.length<=a.mc
structure Gu (v:Vd):Prop where
 s:v.ss.length<=1048576
 t:v.A.length<=1048576
 ss:∀s∈v.ss,s.size<=1048576
 A:∀s∈v.A,s.size<=1048576
 R:EZ v.ks v.ps v.ls
 r:GW v.D v.ms
 rn:Fm v.ks<=1048576
structure Em (v:Vd) (r:Rs):Prop where
 wd:1<=v.wd/\v.wd<=8
 lim:0<=v.lim/\v.lim<=1000000
 log:Dg v.ss v.A=true
 run:Cx v.wd r0 (v.ss++v.A) r
 same:(v.wd=v.P/\r.E=v.E/\r.G=v.G/\r.C=v.C)/\r.ks=v.ks/\r.ps=v.ps/\r.ls=v.ls
 round:AK v.wd v.C v.H v.O v.M v.ro v.D v.ms
def Cl(v:Vd):Prop:=∃r,Em v r
theorem Eb{b:Zl}(h:Dg a b=true):(a++b).length<=4000:=by unfold Dg at h;simp at h;rw[List.length_append];exact h.1
theorem Oa{b:Nat}{j k l m n o q r s t a c d e f g i:Value}(h:Aa w b [j,k,l,m,n,o,q,r,s,t,a,c,d,e,f,g,i]):w.cell? (Zd b 0)=some j/\w.cell? (Zd b 1)=some k/\w.cell? (Zd b 2)=some l/\w.cell? (Zd b 3)=some m/\w.cell? (Zd b 4)=some n/\w.cell? (Zd b 5)=some o/\w.cell? (Zd b 6)=some q/\w.cell? (Zd b 7)=some r/\w.cell? (Zd b 8)=some s/\w.cell? (Zd b 9)=some t/\w.cell? (Zd b 10)=some a/\w.cell? (Zd b 11)=some c/\w.cell? (Zd b 12)=some d/\w.cell? (Zd b 13)=some e/\w.cell? (Zd b 14)=some f/\w.cell? (Zd b 15)=some g/\w.cell? (Zd b 16)=some i:=
 ⟨(h 0 _ rfl).1,(h 1 _ rfl).1,(h 2 _ rfl).1,(h 3 _ rfl).1,(h 4 _ rfl).1,(h 5 _ rfl).1,(h 6 _ rfl).1,(h 7 _ rfl).1,(h 8 _ rfl).1,(h 9 _ rfl).1,(h 10 _ rfl).1,(h 11 _ rfl).1,(h 12 _ rfl).1,(h 13 _ rfl).1,(h 14 _ rfl).1,(h 15 _ rfl).1,(h 16 _ rfl).1⟩
section
attribute [local go_sem] Oper.semAt_some
end
def WS(wd:Int)(xs:Zl)(w:Zh)(e:Ending)(w':Zh):Prop:=
 ∃(x:An) (T P L:Value) (rs:Zj),PD wd xs x/\e=.returned (.agg #[Zg x.code,Zg x.wd,Zg x.E,Zg x.G,Zg x.C,T,P,L,.string x.sm,Zg x.le,.string x.a,.string x.b])/\Bb w' w.heap.size T P L rs x.ks x.ps x.ls/\Zz w w'
structure L2 (OX:Nat->Nat->Zh->Zj->Prop) (X:Zh) (xc:Zj) (L pX N:Nat):Prop where
 bX:Aa X pX xc
 oX:OX L N X xc
 l1:N<=pX
 le:pX<X.heap.size
theorem boxed{X:Zh}{cs z:Zj}{T:TypeId}(b:cs.length=z.length):Aa ((X.alloc (.cells z.toArray T)).setCells X.heap.size 0 cs) X.heap.size cs/\Zz X ((X.alloc (.cells z.toArray T)).setCells X.heap.size 0 cs)/\((X.alloc (.cells z.toArray T)).setCells X.heap.size 0 cs).heap.size=X.heap.size+1:=by have a:=Aa.new X z T;have c:=AF X.heap.size cs 0 (X.alloc (.cells z.toArray T));refine⟨a.ar cs b,(Zy).trans (c.below Yu Yu),?_⟩;rw[Gy];simp
section
variable {wd now given births:Int} {ks:List Kd} {ps:List Pd} {ls:List Ld}
theorem FB(h:AI wd now given births ks ps ls):s∈liveA wd now given births ks ps ls↔Reach ks (Ba ps ls) s:=by unfold liveA;rw[if_pos h];unfold liveL;rw[GN];exact Mp (DC h).live
open Classical in
theorem QR(h:AI wd now given births ks ps ls)(a:k∈ks):k.sum∈wasteA wd now given births ks ps ls↔¬Reach ks (Ba ps ls) k.sum:=by
 unfold wasteA;rw[if_pos h];unfold wasteK;rw[List.mem_map];constructor
 .rintro⟨u,c,e⟩;rw[<-e];exact of_decide_eq_true (List.mem_filter.1 c).2
 .exact fun b=>⟨k,List.mem_filter.2 ⟨a,decide_eq_true b⟩,rfl⟩
theorem Mv(p:Kd->Bool):∀(ks:List Kd),(ks.filter p).length+(ks.filter (fun k=> !p k)).length=ks.length
 |[]=>rfl
 |k::ks=>by have:=Mv p ks;cases h:p k<;>simp[h]<;>omega
open Classical in
theorem Ss(h:AI wd now given births ks ps ls):(liveA wd now given births ks ps ls).length+(wasteA wd now given births ks ps ls).length=ks.length:=by
 have f:=h.bt.nd;have g:(liveA wd now given births ks ps ls).length=(ks.filter (fun k=>decide (Reach ks (Ba ps ls) k.sum))).length:=by
  have j:((ks.filter (fun k=>decide (Reach ks (Ba ps ls) k.sum))).map (·.sum)).length=(ks.filter (fun k=>decide (Reach ks (Ba ps ls) k.sum))).length:=List.length_map _;rw[<-j];refine Nat.le_antisymm (Da ?_ (fun s b=> ?_)) (Da ?_ (fun s b=> ?_))
  .unfold liveA;rw[if_pos h];unfold liveL;exact(GO _).imp (fun a e=>by rw[e,BA]at a;cases a)
  .have d:=(FB h).1 b;obtain⟨u,c,rfl⟩:=(DC h).live s d;exact List.mem_map.2 ⟨u,List.mem_filter.2 ⟨c,decide_eq_true d⟩,rfl⟩
  .exact f.sublist (List.Sublist.map _ List.filter_sublist)
  .obtain⟨u,c,rfl⟩:=List.mem_map.1 b;exact(FB h).2 (of_decide_eq_true (List.mem_filter.1 c).2)
 have i:(wasteA wd now given births ks ps ls).length=(ks.filter (fun k=> !decide (Reach ks (Ba ps ls) k.sum))).length:=by unfold wasteA;rw[if_pos h];unfold wasteK;rw[List.length_map];congr 1;refine List.filter_congr (fun k _=> ?_);simp
 rw[g,i];exact Mv _ _
end
section
open Classical in
noncomputable def potU (ks:List Kd) (ms:Zl):Nat:=(ks.map (fun k=>if k.sum∈ms then 0 else k.B.length)).sum
open Classical in
theorem Vq(ks:List Kd)(a:Zl)(s:Zi):potU ks (a++[s])<=potU ks a:=by
 unfold potU;induction ks with
 |nil=>simp
 |cons k ks ih=>
  simp only[List.map_cons,List.sum_cons];have:(if k.sum∈a++[s]then 0 else k.B.length)<=(if k.sum∈a then 0 else k.B.length):=by
   by_cases h:k.sum∈a
   .rw[if_pos (List.mem_append.2 (.inl h)),if_pos h];exact Zx
   .rw[if_neg h];split<;>omega
  omega
open Classical in
theorem St(b:k∈ks)(d:k.sum∉a):potU ks (a++[k.sum])+k.B.length<=potU ks a:=by
 induction ks with
 |nil=>cases b
 |cons y ks ih=>
  have c:=Vq ks a k.sum;unfold potU at c ih |-;simp only[List.map_cons,List.sum_cons];rcases List.mem_cons.1 b with rfl|b
  .rw[if_pos Yu,if_neg d];omega
  .have:=ih b;have e:(if y.sum∈a++[k.sum]then 0 else y.B.length)<=(if y.sum∈a then 0 else y.B.length):=by
    by_cases h:y.sum∈a
    .rw[if_pos (List.mem_append.2 (.inl h)),if_pos h];exact Zx
    .rw[if_neg h];split<;>omega
   omega
structure Ob (ks:List Kd) (ps:List Pd) (ls:List Ld) (qs ms:Zl):Prop where
 nd:ms.Nodup
 live:∀s∈ms,Reach ks (Ba ps ls) s
 q:∀s∈qs,Reach ks (Ba ps ls) s
 roots:∀s∈Ba ps ls,s∈ms\/s∈qs
 ja:∀k∈ks,k.sum∈ms->∀r∈k.B,r∈ms\/r∈qs
theorem Su(b a:Zl):(fresh b a).length<=a.length:=List.length_filter_le _ _
theorem Sv{r:Zi}(b:r∈a):r∈ms\/r∈fresh ms a:=by
 by_cases h:r∈ms
 .exact .inl h
 .refine .inr (List.mem_filter.2 ⟨b,?_⟩);simp;exact fun x c e=>h (e▸c)
theorem Ob.step{j l f:Zl}(u:AI wd now given births ks ps ls)(h:Ob ks ps ls (s::j) ms)(G:Lb ks s j ms l f):Ob ks ps ls l f/\l.length+potU ks f+1<=(s::j).length+potU ks ms:=by
 have B:=u.bt.nd;have C:Ay ks s:=(DC u).live s (h.q s Yu);rcases G with⟨o,rfl,rfl⟩|⟨k,g,rfl,n,rfl,rfl⟩
 .have o:s∈f:=o.resolve_left (fun n=>n C);refine⟨⟨h.nd,h.live,fun x d=>h.q x (by simp[d]),fun x d=> ?_,fun k g A r i=> ?_⟩,Yt⟩
  .rcases h.roots x d with c|c
   .exact .inl c
   .rcases List.mem_cons.1 c with rfl|c
    .exact .inl o
    .exact .inr c
  .rcases h.ja k g A r i with c|c
   .exact .inl c
   .rcases List.mem_cons.1 c with rfl|c
    .exact .inl o
    .exact .inr c
 .have t:Reach ks (Ba ps ls) k.sum:=h.q _ Yu;have q:∀x,x∈ms\/x∈k.sum::j->x∈ms++[k.sum]\/x∈j++fresh (ms++[k.sum]) k.B:=fun x d=>by
   rcases d with c|c
   .exact .inl (by simp[c])
   .rcases List.mem_cons.1 c with rfl|c
    .exact .inl Yu
    .exact .inr (by simp[c])
  refine⟨⟨?_,fun x d=> ?_,fun x d=> ?_,fun x d=>q x (h.roots x d),fun y z E r i=> ?_⟩,?_⟩
  .rw[List.nodup_append];exact⟨h.nd,Yu,fun a F b v e=>by simp at v;exact n (v▸e▸F)⟩
  .rcases List.mem_append.1 d with c|c
   .exact h.live x c
   .simp at c;rw[c];exact t
  .rcases List.mem_append.1 d with c|c
   .exact h.q x (by simp[c])
   .exact .step t g rfl (List.mem_filter.1 c).1
  .rcases List.mem_append.1 E with c|c
   .exact q r (h.ja y z c r i)
   .simp at c;have D:y=k:=CX B z g c;rw[D]at i;rcases Sv (ms:=ms++[k.sum]) i with m|m
    .exact .inl m
    .exact .inr (by simp[m])
  .have c:=St g n;have m:=Su (ms++[k.sum]) k.B;simp;omega
theorem Ob.done(h:Ob ks ps ls [] a)(b:Reach ks (Ba ps ls) s)(_hth:∀s,Reach ks (Ba ps ls) s->Ay ks s):s∈a:=by
 induction b with
 |here hx=>exact(h.roots _ hx).resolve_right Yu
 |step _ hu he hx ih=>exact(h.ja _ hu (he▸ih) _ hx).resolve_right Yu
end
structure Jc (ks kz:List Kd) (ms:Zl) (at_:Int) (ds:Zl):Prop where
 sub:kz.Sublist ks
 kept:∀k∈ks,k.sum∈ms->k∈kz
 low:∀k∈ks,k.born<at_->k∈kz
 fw:∀k∈kz,at_<=k.born->k.sum∈ms
 jd:∀k∈ks,k∉kz->k.sum∈ds
 len:ds.length+kz.length=ks.length
theorem Sw(b:(ks.map (·.sum)).Nodup)(c:u∈ks):(Bt ks u.sum).length+1=ks.length:=by obtain⟨i,a⟩:=List.getElem?_of_mem c;rw[JI b a,List.length_eraseIdx];have:=(Zw a).1;rw[if_pos this];omega
theorem Sx(b:AI wd now given births ks ps ls){y:Kd}(h:y∈ks)(f:u∈ks)(d:u.sum∈y.B):u.born<y.born:=by obtain⟨i,c⟩:=List.getElem?_of_mem h;obtain⟨v,g,e,a⟩:=b.ref i y c u.sum d;rw[CX b.bt.nd g f e]at a;exact a
theorem Jc.used{j:List Kd}{c o:Zl}{a:Int}(q:AI wd now given births ks ps ls)(b:∀s,s∈c↔Reach ks (Ba ps ls) s)(h:Jc ks j c a o)(m:Ey j a u)(g:u.sum∈c\/Cz ps ls j u.sum):u.sum∈c:=by
 rcases g with g|(⟨p,t,e⟩|⟨l,r,e⟩)|⟨y,i,k⟩
 .exact g
 .exact(b _).2 (.here (List.mem_append.2 (.inl (List.mem_map.2 ⟨p,t,e⟩))))
 .exact(b _).2 (.here (List.mem_append.2 (.inr (List.mem_map.2 ⟨l,r,e⟩))))
 .have d:=h.sub.subset i;have v:=Sx q d (h.sub.subset m.1) k;have n:a<=y.born:=by
   rcases Int.lt_or_le y.born a with f|f
   .have:=m.2.2 y i f;omega
   .exact f
  exact(b _).2 (.step ((b _).1 (h.fw y i n)) d rfl k)
theorem Jc.ah{e g:Zl}{b:Int}(j:AI wd now given births ks ps ls)(l:∀x∈ks,∀y∈ks,x.born=y.born->x=y)(m:∀s,s∈e↔Reach ks (Ba ps ls) s)(h:Jc ks d e b g)(c:Ey d b u)(a:u.sum∈e\/Cz ps ls d u.sum):Jc ks d e u.born g:=by
 have i:=h.used j m c a;refine⟨h.sub,h.kept,fun k a o=>h.low k a (by have:=c.2.1;omega),fun k a n=> ?_,h.jd,h.len⟩;rcases Int.lt_or_le k.born b with f|f
 .have q:=c.2.2 k a f;rw[l k (h.sub.subset a) u (h.sub.subset c.1) Yv];exact i
 .exact h.fw k a f
theorem Jc.drop{m n:Zl}{i:Int}(z:AI wd now given births ks ps ls)(A:∀x∈ks,∀y∈ks,x.born=y.born->x=y)(h:Jc ks d m i n)(g:Ey d i u)(C:u.sum∉m):Jc ks (Bt d u.sum) m u.born (n++[u.sum]):=by
 have j:=z.bt.nd;have c:∀k∈d,k≠u->k∈Bt d u.sum:=fun k a s=>by refine List.mem_filter.2 ⟨a,?_⟩;simp;exact fun e=>s (CX j (h.sub.subset a) (h.sub.subset g.1) e)
 have f:(Bt d u.sum).Sublist d:=List.filter_sublist;refine⟨f.trans h.sub,fun k a q=>c k (h.kept k a q) (fun e=>C (e▸q)),fun k a r=>c k (h.low k a (by have:=g.2.1;omega)) (fun e=>by rw[e]at r;omega),fun k a D=> ?_,fun k a t=> ?_,?_⟩
 .have b:=f.subset a;rcases Int.lt_or_le k.born i with l|l
  .have v:=g.2.2 k b l;have B:=A k (h.sub.subset b) u (h.sub.subset g.1) Yv;have o:=(List.mem_filter.1 a).2;rw[B]at o;simp at o
  .exact h.fw k b l
 .by_cases b:k∈d
  .by_cases hku:k=u
   .rw[hku];simp
   .exact absurd (c k b hku) t
  .exact List.mem_append.2 (.inl (h.jd k a b))
 .have v:=Sw ((h.sub.map (·.sum)).nodup j) g.1;have E:=h.len;simp;omega
def Io(kz:List Kd)(at_:Int):Nat:=(kz.filter (fun k=>decide (k.born<at_))).length
theorem PE(a:List Kd)(b:Int):Io a b<=a.length:=List.length_filter_le _ _
theorem FU{b:List Kd}{a:Int}(e:u∈b)(g:u.born<a):Io b u.born+1<=Io b a:=by
 induction b with
 |nil=>cases e
 |cons y b ih=>
  unfold Io at ih |-;have f:(b.filter (fun k=>decide (k.born<u.born))).length<=(b.filter (fun k=>decide (k.born<a))).length:=by
   clear ih e;induction b with
   |nil=>simp
   |cons z b ih=>
    by_cases c:z.born<u.born
    .have d:z.born<a:=Yv
     simp[c,d,ih]
    .by_cases d:z.born<a<;>simp[c,d]<;>omega
  rcases List.mem_cons.1 e with rfl|e
  .have c:¬u.born<u.born:=Yv
   simp[c,g];omega
  .have:=ih e;by_cases c:y.born<u.born
   .have d:y.born<a:=Yv
    simp[c,d];omega
   .by_cases d:y.born<a<;>simp[c,d]<;>omega
theorem Mw(b:List Kd)(s:Zi)(a:Int):Io (Bt b s) a<=Io b a:=by unfold Io Bt;exact(List.filter_sublist.filter _).length_le
inductive FuS (ks:List Kd) (ps:List Pd) (ls:List Ld) (births:Int):List Kd->Int->Int->Int->Int->Zl->Zl->Zl->Nat->Prop
 |start:FuS ks ps ls births ks 0 0 0 0 [] [] [] ((Br ps ls).length+potU ks []+ks.length+2)
 |mark (qs ms:Zl) (h:Ob ks ps ls qs ms):FuS ks ps ls births ks 1 births (births+1) 0 qs ms [] (qs.length+potU ks ms+ks.length+1)
 |sweep (kz:List Kd) (at_:Int) (ms D:Zl) (hm:∀s,s∈ms↔Reach ks (Ba ps ls) s) (hn:ms.Nodup) (hat:1<=at_/\at_<=births+1) (h:Jc ks kz ms at_ D):FuS ks ps ls births kz 2 births at_ 0 [] ms D (Io kz at_+1)
 |stop (kz:List Kd) (D:Zl) (hk:∀k∈ks,k∈kz↔Reach ks (Ba ps ls) k.sum) (hs:kz.Sublist ks) (hd:∀k∈ks,¬Reach ks (Ba ps ls) k.sum->k.sum∈D) (hl:D.length+kz.length=ks.length):FuS ks ps ls births kz 0 0 0 1 [] [] D 0
theorem FuS.step{wd now given births E A f I:Int}{ks d:List Kd}{ps:List Pd}{ls:List Ld}{F ms D:Zl}{M:Nat}{r:UR}(j:AI wd now given births ks ps ls)(t:∀x∈ks,∀y∈ks,x.born=y.born->x=y)(h:FuS ks ps ls births d E A f I F ms D M)(N:0<M)(a:UTo d ps ls births E A f I F ms r):
 (∃G,G+1<=M/\FuS ks ps ls births r.ks r.H r.O r.M r.ro r.D r.ms (D++r.S) G)/\(r.S=[]\/∃u∈d,r.S=[u.sum]/\u.born<f/\r.M=u.born)/\(r.H=2->E=1->r.ms.Nodup/\∀s,s∈r.ms↔Reach ks (Ba ps ls) s):=by
 have J:=(DC j).live;have m:∀k∈ks,1<=k.born:=fun k b=>by obtain⟨i,B⟩:=List.getElem?_of_mem b;exact(j.born i k B).y
 have e:∀ms,Ob ks ps ls [] ms->∀s,s∈ms↔Reach ks (Ba ps ls) s:=fun ms c s=>⟨c.live s,fun o=>c.done o J⟩;have q:∀ms,Jc ks ks ms (births+1) []:=fun ms=>by refine⟨List.Sublist.refl _,fun k b _=>b,fun k b _=>b,fun k b L=> ?_,fun k b g=>absurd b g,by simp⟩;obtain⟨i,B⟩:=List.getElem?_of_mem b;have:=(j.born i k B).hi;omega
 have l:∀{d ms D f},(∀s,s∈ms↔Reach ks (Ba ps ls) s)->Jc ks d ms f D->(∀y∈d,¬y.born<f)->FuS ks ps ls births d 0 0 0 1 [] [] (D++[]) 0:=fun {d ms D f} c h g=>by rw[List.append_nil];have z:∀k∈ks,k∈d↔Reach ks (Ba ps ls) k.sum:=fun k b=>⟨fun v=>(c _).1 (h.fw k v (by have:=g k v;omega)),fun o=>h.kept k b ((c _).2 o)⟩;exact .stop d D z h.sub (fun k b o=>h.jd k b (fun v=>o ((z k b).1 v))) h.len
 cases h with
 |start=>
  cases a with
  |begin _=>refine⟨⟨_,?_,.mark (Br ps ls) [] ⟨List.nodup_nil,by simp,fun s C=> .here (Ik.1 C),fun s C=> .inr (Ik.2 C),by simp⟩⟩,.inl rfl,fun h=>by cases h⟩;omega
  |mark h=>exact absurd rfl h
  |rest h=>exact absurd rfl h
  |ah h=>exact absurd rfl h
  |drop h=>exact absurd rfl h
 |mark F ms h=>
  cases a with
  |begin h=>cases h
  |mark _ s q0 qs' ms' hq c=>subst hq;obtain⟨n,H⟩:=h.step j c;exact⟨⟨_,by omega,.mark qs' ms' n⟩,.inl rfl,fun h=>by cases h⟩
  |rest _ hq g=>subst hq;exact⟨⟨0,by omega,l (e ms h) (q ms) g⟩,.inl rfl,fun h=>by cases h⟩
  |ah _ hq u a b=>subst hq;have c:=e ms h;have n:=FU a.1 a.2.1;have H:=PE ks (births+1);exact⟨⟨_,by simp at *;omega,.sweep ks u.born ms [] c h.nd ⟨m u a.1,by have:=a.2.1;omega⟩ ((q ms).ah j t c a b)⟩,.inl rfl,fun _ _=>⟨h.nd,c⟩⟩
  |drop _ hq u a g b=>subst hq;have c:=e ms h;have n:=FU a.1 a.2.1;have H:=PE ks (births+1);have K:=Mw ks u.sum u.born;exact⟨⟨_,by simp at *;omega,.sweep (Bt ks u.sum) u.born ms [u.sum] c h.nd ⟨m u a.1,by have:=a.2.1;omega⟩ ((q ms).drop j t a g)⟩,.inr ⟨u,a.1,rfl,a.2.1,rfl⟩,fun _ _=>⟨h.nd,c⟩⟩
 |sweep d f ms D c g hat h=>
  cases a with
  |begin h=>cases h
  |mark _ s q0 qs' ms' hq _=>cases hq
  |rest _ _ hno=>exact⟨⟨0,by omega,l c h hno⟩,.inl rfl,fun h=>by cases h⟩
  |ah _ _ u a b=>have n:=FU a.1 a.2.1;refine⟨⟨Io d u.born+1,by omega,?_⟩,.inl rfl,fun _ h=>by cases h⟩;rw[List.append_nil];exact .sweep d u.born ms D c g ⟨m u (h.sub.subset a.1),by have:=a.2.1;omega⟩ (h.ah j t c a b)
  |drop _ _ u a hnm b=>have n:=FU a.1 a.2.1;have K:=Mw d u.sum u.born;exact⟨⟨_,by omega,.sweep (Bt d u.sum) u.born ms (D++[u.sum]) c g ⟨m u (h.sub.subset a.1),by have:=a.2.1;omega⟩ (h.drop j t a hnm)⟩,.inr ⟨u,a.1,rfl,a.2.1,rfl⟩,fun _ h=>by cases h⟩
 |stop=>omega
end Go.Proofs.YtcfjcdpkpiidkaaGreat
