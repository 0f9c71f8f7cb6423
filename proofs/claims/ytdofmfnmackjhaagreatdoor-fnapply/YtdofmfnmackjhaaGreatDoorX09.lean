import Derived.Test.YtdofmfnmackjhaaGreatDoorX05
import Derived.Test.YtdofmfnmackjhaaGreatDoorX06
import Derived.OneCell
import Derived.Lib.BytesEntry
set_option maxRecDepth 100000
set_option maxHeartbeats 16000000
namespace Go.Proofs.YtdofmfnmackjhaaGreatDoor
open ChangeShapes WideShapes ChangeAt RowKit _root_.Go.Proofs.Tryz List World Value
variable{w w':Zh}{a n d B g c k size b f base:Nat}{v P L:Value}{e:TypeId}{T r:Option Nat}{V R:List Nat}{j:Dj}{s t:Zi}
theorem Vw{d:Zj}(h:w.ownsRow a 9 1 v n d)(c:v≠Zb):∃g b,v=Yz g n b:=by
 rcases Joins.ownsRow_forms h with⟨e,_⟩|b
 .exact absurd e c
 .exact b
theorem Af.dy{c:Zl}(h:Af w B (some ⟨g,0,none⟩) c):∀j u,(c.map string)[j]?=some u->w.cell? ((⟨g,0,none⟩:Addr).add j)=some u:=by
 intro j u a;rw[getElem?_map]at a;cases hs:c[j]? with
 |none=>rw[hs]at a;cases a
 |some s=>
  rw[hs]at a;cases a;rcases h with h|⟨b,f,d,_,e⟩
  .subst h;simp at hs
  .cases d;have:=e j s hs;rw[A3];simpa using this
theorem Aae(b:Zl):∀u∈b.map string,u.oneCell'=true:=λu a=>by obtain⟨s,_,rfl⟩:=mem_map.1 a;rfl
def Ab{A:Type}(c:A->Zj)(xs:List A):Zj:=xs.flatMap c
theorem Bq{A:Type}{c:A->Zj}(h:∀x,(c x).length=n)(a:List A):(Ab c a).length=a.length *n:=by
 unfold Ab;induction a with
 |nil=>simp
 |cons x a ih=>rw[flatMap_cons,Ak,ih,h,length_cons,Nat.add_mul];omega
theorem Bn{A:Type}(c:A->Zj)(a b:List A):Ab c (a++b)=Ab c a++Ab c b:=by unfold Ab;rw[flatMap_append]
theorem BN{A:Type}{c:A->Zj}(h:∀x,(c x).length=n):∀{xs:List A} {i j:Nat} {x:A},xs[i]?=some x->j<n->(Ab c xs)[i *n+j]?=(c x)[j]?
 |[],_,_,_,hx,_=>by simp at hx
 |y::ys,0,j,x,hx,hj=>by simp at hx;subst hx;show(y::ys|>.flatMap c)[_]?=_;rw[flatMap_cons,Nat.zero_mul,A0,getElem?_append_left (by rw[h];exact hj)]
 |y::ys,i+1,j,x,hx,hj=>by
  have a:ys[i]?=some x:=D2 hx
  show(y::ys|>.flatMap c)[_]?=_;rw[flatMap_cons,getElem?_append_right (by rw[h,Nat.add_mul];omega),h,show(i+1) *n+j -n=i *n+j by rw[Nat.add_mul];omega];exact BN h a hj
theorem Rt{A:Type}{c:A->Zj}(h:∀x,(c x).length=n)(f:0<n){a:List A}{u:D4}(d:(Ab c a)[k]?=some u):∃x,a[k/n]?=some x/\(c x)[k%n]?=some u:=by have e:=(Zw d).1;rw[Bq h]at e;have b:=Nat.div_lt_of_lt_mul (by rw[Nat.mul_comm];exact e);refine⟨a[k/n],Zv b,?_⟩;have:=BN h (Zv b) (Nat.mod_lt k f);rw[show k/n *n+k%n=k by rw[Nat.mul_comm];exact Nat.div_add_mod k n]at this;rw[<-this];exact d
theorem FR{A:Type}{c:A->Zj}(h:∀x,(c x).length=n)(a:List A)(i:Nat)(e:i<=a.length):(Ab c a).take (i *n)=Ab c (a.take i):=by
 have b:Ab c a=Ab c (a.take i)++Ab c (a.drop i):=by rw[<-Bn,take_append_drop]
 have d:(Ab c (a.take i)).length=i *n:=by rw[Bq h,Ct,Nat.min_eq_left e]
 rw[b,<-d,take_left]
theorem EE{A:Type}{c:A->Zj}(h:∀x,(c x).length=n)(a:List A)(i:Nat)(e:i<=a.length):(Ab c a).drop (i *n)=Ab c (a.drop i):=by
 have b:Ab c a=Ab c (a.take i)++Ab c (a.drop i):=by rw[<-Bn,take_append_drop]
 have d:(Ab c (a.take i)).length=i *n:=by rw[Bq h,Ct,Nat.min_eq_left e]
 rw[b,<-d,drop_left]
def pC(p:Pd):Zj:=[.string p.name,.string p.sum]
def lC(l:Ld):Zj:=[Zg l.G,.string l.sum,Zg l.S]
theorem Ce(p:Pd):(pC p).length=2:=rfl
theorem CR(l:Ld):(lC l).length=3:=rfl
theorem EF(s:Zi):(Au s).length=8:=rfl
theorem Gh(a:Zl):AH a=Ab Au a:=rfl
theorem JD(c:Dy):∀u∈Ab pC c,u.oneCell'=true:=by intro u b;have⟨p,_,a⟩:=mem_flatMap.1 b;simp[pC]at a;rcases a with rfl|rfl<;>rfl
theorem Vx(c:Dv):∀u∈Ab lC c,u.oneCell'=true:=by intro u b;have⟨p,_,a⟩:=mem_flatMap.1 b;simp[lC]at a;rcases a with rfl|rfl|rfl<;>rfl
theorem BF{i:Zj}(h:w.ownsRow a e size v n i)(f:v≠Zb):∃g b,v=Yz g n b/\a<=g/\g<w.1.size:=by
 rcases h.2 with⟨e,_⟩|⟨g,b,j,rfl,c,d,_⟩
 .exact absurd e f
 .exact⟨g,b,rfl,c,(A2.1 d).1⟩
theorem AU.dy{f:Dy}(h:AU w B (some ⟨b,a,none⟩) f):∀j u,(Ab pC f)[j]?=some u->w.cell? ((⟨b,a,none⟩:Addr).add j)=some u:=by
 intro j u l;have⟨p,d,c⟩:=Rt Ce Yq l;rcases h with h|⟨o,g,i,_,k⟩
 .subst h;simp at d
 .cases i;obtain⟨m,n⟩:=k _ p d;rw[A3];have q:=Nat.mod_lt j (show 0<2 by decide);rcases(show j%2=0\/j%2=1 by omega)with e|e<;>rw[e]at c<;>simp[pC]at c<;>subst c
  .rw[show a+j=a+j/2 *2 by omega];exact m
  .rw[show a+j=a+j/2 *2+1 by omega];exact n
theorem AS.dy{f:Dv}(h:AS w B (some ⟨b,a,none⟩) f):∀j u,(Ab lC f)[j]?=some u->w.cell? ((⟨b,a,none⟩:Addr).add j)=some u:=by
 intro j u l;have⟨p,e,d⟩:=Rt CR Yq l;rcases h with h|⟨q,g,i,_,k⟩
 .subst h;simp at e
 .cases i;obtain⟨m,n,o⟩:=k _ p e;rw[A3];have r:=Nat.mod_lt j (show 0<3 by decide);rcases(show j%3=0\/j%3=1\/j%3=2 by omega)with c|c|c<;>rw[c]at d<;>simp[lC]at d<;>subst d
  .rw[show a+j=a+j/3 *3 by omega];exact m
  .rw[show a+j=a+j/3 *3+1 by omega];exact n
  .rw[show a+j=a+j/3 *3+2 by omega];exact o
theorem AU.own{a:Zk}{b:Dy}(h:w.ownsRow c 71 2 (C3 a b.length f) b.length (Ab pC b)):AU w w.1.size a b:=by
 rcases h.2 with⟨e,n⟩|⟨g,j,o,m,p,q,_⟩
 .exact .inl (length_eq_zero_iff.1 n)
 .cases m;refine .inr ⟨g,0,rfl,(h.lt g rfl).2,λi x d=> ?_⟩;have r:=(Zw d).1;have k:=BN Ce d (show 0<2 by decide);have l:=BN Ce d (show 1<2 by decide);rw[A0];exact⟨(h.cellAt _ Yv).ah k,(h.cellAt _ Yv).ah l⟩
theorem AS.own{a:Zk}{c:Dv}(h:w.ownsRow d 73 3 (C3 a c.length f) c.length (Ab lC c)):AS w w.1.size a c:=by
 rcases h.2 with⟨e,o⟩|⟨g,j,p,n,q,r,_⟩
 .exact .inl (length_eq_zero_iff.1 o)
 .cases n;refine .inr ⟨g,0,rfl,(h.lt g rfl).2,λi x b=> ?_⟩;have s:=(Zw b).1;have k:=BN CR b (show 0<3 by decide);have l:=BN CR b (show 1<3 by decide);have m:=BN CR b (show 2<3 by decide);rw[A0];exact⟨(h.cellAt _ Yv).ah k,(h.cellAt _ Yv).ah l,(h.cellAt _ Yv).ah m⟩
theorem AU.fo{a:Addr}{c:Dy}(h:AU w B (some a) c):∀j u,(Ab pC c)[j]?=some u->w.cell? (a.add j)=some u:=by
 rcases h with rfl|⟨b,d,e,f,g⟩
 .intro j u i;simp[Ab]at i
 .cases e;exact AU.dy (.inr ⟨b,d,rfl,f,g⟩)
theorem AS.fo{a:Addr}{c:Dv}(h:AS w B (some a) c):∀j u,(Ab lC c)[j]?=some u->w.cell? (a.add j)=some u:=by
 rcases h with rfl|⟨b,d,e,f,g⟩
 .intro j u i;simp[Ab]at i
 .cases e;exact AS.dy (.inr ⟨b,d,rfl,f,g⟩)
theorem Af.fo{d:Addr}{c:Zl}(h:Af w B (some d) c):∀j u,(c.map string)[j]?=some u->w.cell? (d.add j)=some u:=by
 rcases h with rfl|⟨b,g,e,i,f⟩
 .intro j u a;simp at a
 .cases e;intro j u a;rw[getElem?_map]at a;cases hs:c[j]? with
  |none=>rw[hs]at a;cases a
  |some s=>rw[hs]at a;cases a;rw[A3];exact f j s hs
theorem AU.nil{a:Dy}(h:AU w B none a):a=[]:=by
 rcases h with h|⟨_,_,h,_⟩
 .exact h
 .cases h
theorem AS.nil{a:Dv}(h:AS w B none a):a=[]:=by
 rcases h with h|⟨_,_,h,_⟩
 .exact h
 .cases h
theorem Af.nil{a:Zl}(h:Af w B none a):a=[]:=by
 rcases h with h|⟨_,_,h,_⟩
 .exact h
 .cases h
theorem JE(a:Zk)(c:Nat)(b:List Pd)(w:Zh)(j:AU w w.1.size a b)(A:b.length<=1048576):
 D8 59 #[.slice a b.length c] w λe g=>∃d f,e=.returned (.slice d b.length f)/\
  g.ownsRow w.1.size 71 2 (.slice d b.length f) b.length (Ab pC b)/\Zz w g:=by
 rcases a with _|m
 .obtain rfl:=j.nil;have f:∀u:Zh,(binOp .eql 24 (.slice none 0 c) Zb).run prog u=.ok (.bool true) u:=λ_=>by first|rfl|kernel_rfl
  go_enter func59,ntmps59;go_wp2;go_ret;exact⟨none,0,rfl,⟨rfl,.inl ⟨rfl,rfl⟩⟩,Ad⟩
 have⟨t,s,o,p,q⟩:=info_parts GP;have i:Below w.1.size w (w.alloc (.cells #[] 71)):=Zy;have f:∀u:Zh,(binOp .eql 24 (.slice (some m) b.length c) Zb).run prog u=.ok (.bool false) u:=λ_=>by first|rfl|kernel_rfl
 go_enter func59,ntmps59;go_wp2_with (first
  |(at_builtin;refine wpList_append_own _ rfl _ _ 24 rfl w.1.size 71 t _ 2 32 underlying24 s o p q rfl Yq _ 0 (Ab pC []) rfl ?d0 m b.length c (Ab pC b) rfl ?d1 ?d2 ?d3 ?d4 ?d5 ?d6 ?_)
  |go_in)
 case d0=>exact ownsRow_lit (base:=w.1.size) (e:=71) (size:=2) w #[] 0 (Zx) Yo rfl
 case d1=>exact Bq Ce b
 case d2=>exact(j.A i).fo
 case d3=>exact JD b
 case d4=>unfold maxLen;omega
 case d5=>omega
 case d6=>simp
 intro B v d g h;obtain⟨x,r,rfl,y,z⟩:=BF d h;rw[<-Bn,nil_append]at d;have n:Below w.1.size w v:=i.grown g Yu (λk l=>by simp[ownBlock]at l;omega);have l:=Yw (Zn d n);try simp only[A0]at *
 clear d g h n i j;go_wp2;go_ret;exact⟨_,r,rfl,l.1,l.2⟩
theorem IC(a:Zk)(c:Nat)(b:List Ld)(w:Zh)(j:AS w w.1.size a b)(A:b.length<=1048576):
 D8 60 #[.slice a b.length c] w λe g=>∃d f,e=.returned (.slice d b.length f)/\
  g.ownsRow w.1.size 73 3 (.slice d b.length f) b.length (Ab lC b)/\Zz w g:=by
 rcases a with _|m
 .obtain rfl:=j.nil;have f:∀u:Zh,(binOp .eql 25 (.slice none 0 c) Zb).run prog u=.ok (.bool true) u:=λ_=>by first|rfl|kernel_rfl
  go_enter func60,ntmps60;go_wp2;go_ret;exact⟨none,0,rfl,⟨rfl,.inl ⟨rfl,rfl⟩⟩,Ad⟩
 have⟨t,s,o,p,q⟩:=info_parts Gm;have i:Below w.1.size w (w.alloc (.cells #[] 73)):=Zy;have f:∀u:Zh,(binOp .eql 25 (.slice (some m) b.length c) Zb).run prog u=.ok (.bool false) u:=λ_=>by first|rfl|kernel_rfl
 go_enter func60,ntmps60;go_wp2_with (first
  |(at_builtin;refine wpList_append_own _ rfl _ _ 25 rfl w.1.size 73 t _ 3 32 underlying25 s o p q rfl Yq _ 0 (Ab lC []) rfl ?d0 m b.length c (Ab lC b) rfl ?d1 ?d2 ?d3 ?d4 ?d5 ?d6 ?_)
  |go_in)
 case d0=>exact ownsRow_lit (base:=w.1.size) (e:=73) (size:=3) w #[] 0 (Zx) Yo rfl
 case d1=>exact Bq CR b
 case d2=>exact(j.A i).fo
 case d3=>exact Vx b
 case d4=>unfold maxLen;omega
 case d5=>omega
 case d6=>simp
 intro B v d g h;obtain⟨x,r,rfl,y,z⟩:=BF d h;rw[<-Bn,nil_append]at d;have n:Below w.1.size w v:=i.grown g Yu (λk l=>by simp[ownBlock]at l;omega);have l:=Yw (Zn d n);try simp only[A0]at *
 clear d g h n i j;go_wp2;go_ret;exact⟨_,r,rfl,l.1,l.2⟩
theorem Pj(a:Zk)(c:Nat)(b:Zl)(w:Zh)(j:Af w w.1.size a b)(A:b.length<=1048576):
 D8 63 #[.slice a b.length c] w λe g=>∃d f,e=.returned (.slice d b.length f)/\
  g.ownsRow w.1.size 9 1 (.slice d b.length f) b.length (b.map string)/\Zz w g:=by
 rcases a with _|m
 .obtain rfl:=j.nil;have f:∀u:Zh,(binOp .eql 28 (.slice none 0 c) Zb).run prog u=.ok (.bool true) u:=λ_=>by first|rfl|kernel_rfl
  go_enter func63,ntmps63;go_wp2;go_ret;exact⟨none,0,rfl,⟨rfl,.inl ⟨rfl,rfl⟩⟩,Ad⟩
 have⟨t,s,o,p,q⟩:=info_parts CC;have i:Below w.1.size w (w.alloc (.cells #[] 9)):=Zy;have f:∀u:Zh,(binOp .eql 28 (.slice (some m) b.length c) Zb).run prog u=.ok (.bool false) u:=λ_=>by first|rfl|kernel_rfl
 go_enter func63,ntmps63;go_wp2_with (first
  |(at_builtin;refine wpList_append_own _ rfl _ _ 28 rfl w.1.size 9 t Zc 1 16 underlying28 s o p q rfl Yq _ 0 (([]:Zl).map string) rfl ?d0 m b.length c (b.map string) rfl ?d1 ?d2 ?d3 ?d4 ?d5 ?d6 ?_)
  |go_in)
 case d0=>exact ownsRow_lit (base:=w.1.size) (e:=9) (size:=1) w #[] 0 (Zx) Yo rfl
 case d1=>simp
 case d2=>exact(j.A i).fo
 case d3=>exact Aae b
 case d4=>unfold maxLen;omega
 case d5=>omega
 case d6=>simp
 intro B v d g h;obtain⟨x,r,rfl,y,z⟩:=BF d h
 skip
 have n:Below w.1.size w v:=i.grown g Yu (λk l=>by simp[ownBlock]at l;omega);have l:=Yw (Zn d n);try simp only[A0]at *
 clear d g h n i j;go_wp2;go_ret;exact⟨_,r,rfl,l.1,l.2⟩
theorem FM{e d c a:Int}{T:D4}(h:Aw w b e d c a T P L):w.cell? (Zd b 0)=some (Zg e)/\w.cell? (Zd b 1)=some (Zg d)/\w.cell? (Zd b 2)=some (Zg c)/\w.cell? (Zd b 3)=some (Zg a)/\w.cell? (Zd b 4)=some T/\w.cell? (Zd b 5)=some P/\w.cell? (Zd b 6)=some L:=
 ⟨h.1,h.2.1,h.2.2.1,h.2.2.2.1,h.2.2.2.2.1,h.2.2.2.2.2.1,h.2.2.2.2.2.2.1⟩
def vB(d m:Nat)(O P L:Value):List Nat:=d::m::(O.ownBlock.toList++(P.ownBlock.toList++L.ownBlock.toList))
def Sn(base:Nat)(V:List Nat):Prop:=∃m,V[1]?=some m/\m<base+4
def DG(w:Zh)(base:Nat)(V:List Nat)(a:Zk)(ss:Zl):Prop:=
 ss=[]\/∃b off,a=some ⟨b,off,none⟩/\b<w.1.size/\b∉V/\((b<base/\Sn base V)\/(base<=b/\∃cur,w.1[b]?=some (.cells cur 9)))/\∀i s,ss[i]?=some s->w.cell? (Zd b (off+i))=some (.string s)
theorem DG.row{a:Zk}{d:Zl}(h:DG w c V a d):Af w w.1.size a d:=by
 rcases h with h|⟨b,e,f,g,_,_,i⟩
 .exact .inl h
 .exact .inr ⟨b,e,f,g,i⟩
def BS(w:Zh)(base:Nat)(V:List Nat)(wd:Int)(ks:List Kd)(f:Lit->Option Value):Prop:=
 ∀s:Zi,(s.size:Int)=wd->(f (keyL s)=none/\¬Am ks s)\/∃u ra rc,u∈ks/\u.sum=s/\f (keyL s)=some (CW u ra rc)/\DG w base V ra u.B
theorem BS.of{W:Zh}{k:Int}{f:Lit->Option Value}(h:Holds W W.1.size k j f)(g:Zz W w)(o:∀b∈V,W.1.size<=b)(t:Sn W.1.size V):BS w W.1.size V k j f:=by
 intro s e;rcases h s e with h|⟨u,x,y,l,m,n,d⟩
 .exact .inl h
 .refine .inr ⟨u,x,y,l,m,n,?_⟩;rcases d with d|⟨b,c,q,a,r⟩
  .exact .inl d
  .exact .inr ⟨b,c,q,Zr a g.size,λv=>Dz (o b v),.inl ⟨a,t⟩,λi s e=>(g.cell (p:=⟨b,c+i,none⟩) a).ah (r i s e)⟩
structure Dr (w:Zh) (base d m:Nat) (O P L:Value) (wd now given births:Int) (ks:List Kd) (ps:List Pd) (ls:List Ld):Prop where
 box:Aa w d [Zg wd,.map (some m),Zg now,Zg given,Zg births,O,P,L]
 map:∃n f,n<=1000000+births.toNat/\AN w 75 m n f/\BS w base (vB d m O P L) wd ks f
 ord:w.ownsRow base 75 8 O ks.length (AH (ks.map (·.sum)))
 cj:w.ownsRow base 71 2 P ps.length (Ab pC ps)
 dq:w.ownsRow base 73 3 L ls.length (Ab lC ls)
 bd:base<=d
 bm:base<=m
 ap:(vB d m O P L).Nodup
theorem BS.A{k:Zh}{l:Int}{f:Lit->Option Value}(h:BS w base V l j f)(e:Zz w k):BS k base V l j f:=by
 intro s g;rcases h s g with h|⟨u,x,y,m,n,o,d⟩
 .exact .inl h
 .refine .inr ⟨u,x,y,m,n,o,?_⟩;rcases d with d|⟨b,c,q,a,v,t,r⟩
  .exact .inl d
  .exact .inr ⟨b,c,q,Zr a e.size,v,(by rw[e.block b a];exact t),λi s g=>(e.cell (p:=⟨b,c+i,none⟩) a).ah (r i s g)⟩
theorem Ah{c:Zj}(h:w.ownsRow a e size v n c)(j:Zz w w'):w'.ownsRow a e size v n c:=by
 refine⟨h.1,?_⟩;rcases h.2 with k|⟨g,d,f,l,i,b,rest⟩
 .exact .inl k
 .exact .inr ⟨g,d,f,l,i,(j.block g (A2.1 b).1).ah b,rest⟩
theorem Dr.A{l:Zh}{m:Nat}{O:D4}{o e b a:Int}{i:Dj}{k:Dy}{j:Dv}(h:Dr w base d m O P L o e b a i k j)(c:Zz w l):Dr l base d m O P L o e b a i k j:=by have⟨n,f,p,g,q⟩:=h.map;exact⟨h.box.A c,⟨n,f,p,g.ag c g.lt,q.A c⟩,Ah h.ord c,Ah h.cj c,Ah h.dq c,h.bd,h.bm,h.ap⟩
theorem Ac{f:Zj}(h:w.ownsRow a e size v n f)(b:v.ownBlock=some g):a<=g/\g<w.1.size:=by
 rcases h.2 with⟨rfl,_⟩|⟨k,i,j,rfl,d,c,_⟩
 .cases b
 .cases b;exact⟨d,(A2.1 c).1⟩
theorem Pk{b:Zh}{c:Zj}(h:w.ownsRow a e size v n c)(k:Below B w b)(j:∀g,v.ownBlock=some g->g<B):b.ownsRow a e size v n c:=by
 refine⟨h.1,?_⟩;rcases h.2 with m|⟨g,d,f,rfl,i,l,rest⟩
 .exact .inl m
 .exact .inr ⟨g,d,f,rfl,i,(k.block g (j g rfl)).ah l,rest⟩
theorem Abr(w:Zh)(a:Nat)(v:D4)(b:Zl)(y:w.ownsRow a 75 8 v b.length (AH b))(s:Zi)(x:b.length<=1000000)(k:a<=w.1.size)(l:TypeId):
 ∃g c f,(Builtin.append_ #[87,87] l #[v,Yz w.1.size 1 1]).run prog (w.alloc (Cx s))=.ok (Yz g (b.length+1) c) f/\f.ownsRow a 75 8 (Yz g (b.length+1) c) (b++[s]).length (AH (b++[s]))/\w.grownBy f v.ownBlock/\(v.ownBlock=some g\/g=w.1.size+1):=by
 obtain⟨A,t,n,o,p⟩:=info_parts Ks;have m:=Ah y (Ad.alloc (Zx) (Cx s));have q:=R8.one w s;have i:∀j u,(AH [s])[j]?=some u->(w.alloc (Cx s)).cell? ((⟨w.1.size,0,none⟩:Addr).add j)=some u:=by
  rcases q with⟨e,_⟩|⟨g,B,c,e,_,i⟩
  .cases e
  .cases e;exact R8.cells i
 obtain⟨C,f,z,h,r,_,d⟩:=run_append_own_at (P:=prog) (w.alloc (Cx s)) a 87 l 75 A _ 8 8 underlying87 t n o p rfl Yq v b.length (AH b) m ⟨w.1.size,0,none⟩ 1 1 (AH [s]) (Da [s]) i (Dx [s]) Yo Yv Yt;obtain⟨g,c,rfl,_,_⟩:=BF h (λe=>by subst e;rcases h.2 with⟨_,x⟩|⟨_,_,_,e,_⟩<;>first|omega|cases e)
 refine⟨g,c,f,z,?_,(grownBy_alloc w (Cx s) _).ah r,?_⟩
 .rw[Gu,Ak];exact h
 .rcases d with d|d
  .exact .inl d.symm
  .right;simpa [ownBlock]using d
def kC(x:Kd×Value):Zj:=[.string x.1.sum,Zg x.1.born,.string x.1.J,x.2]
theorem Cn(x:Kd×Value):(kC x).length=4:=rfl
structure Ba (w:Zh) (base:Nat) (T P L:Value) (rs:Zj) (ks:List Kd) (ps:List Pd) (ls:List Ld):Prop where
 len:rs.length=ks.length
 ak:w.ownsRow base 68 4 T ks.length (Ab kC (ks.zip rs))
 B:∀(i:Nat) (k:Kd) (r:Value),ks[i]?=some k->rs[i]?=some r->w.ownsRow base 9 1 r k.B.length (k.B.map Value.string)
 pins:w.ownsRow base 71 2 P ps.length (Ab pC ps)
 au:w.ownsRow base 73 3 L ls.length (Ab lC ls)
 nd:((T::P::L::rs).filterMap Value.ownBlock).Nodup
theorem Dm{a:Zh}(h:Below B w.drew a):Below B w a:=⟨h.os,h.tape,h.output,h.size,h.block⟩
theorem Aq{d:Zj}(h:w.ownsRow b e size v n d):∃a c,v=C3 a n c:=by
 rcases h.2 with⟨rfl,rfl⟩|⟨g,f,i,rfl,_⟩
 .exact⟨_,_,rfl⟩
 .exact⟨_,_,rfl⟩
theorem BH{c:Zj}(h:w.ownsRow a e size v n c)(d:∀g,v.ownBlock=some g->g≠b)(j:Nat)(u:D4):(w.setCell (Zd b j) u).ownsRow a e size v n c:=
 ownsRow.kept h (Av w b j u) (.inr (λe=>d b e rfl))
theorem d8{a i b c e j f g:D4}(h:Aa w d [a,i,b,c,e,j,f,g]):w.cell? (Zd d 0)=some a/\w.cell? (Zd d 2)=some b/\w.cell? (Zd d 3)=some c/\w.cell? (Zd d 4)=some e/\w.cell? (Zd d 6)=some f/\w.cell? (Zd d 7)=some g:=
 ⟨(h 0 _ rfl).1,(h 2 _ rfl).1,(h 3 _ rfl).1,(h 4 _ rfl).1,(h 6 _ rfl).1,(h 7 _ rfl).1⟩
def BX(T P L:Value)(rs:Zj):List Nat:=T.ownBlock.toList++(P.ownBlock.toList++(L.ownBlock.toList++rs.filterMap Value.ownBlock))
theorem Fo(T P L:D4)(a:Zj):(T::P::L::a).filterMap ownBlock=BX T P L a:=by unfold BX;cases hT:T.ownBlock<;>cases hP:P.ownBlock<;>cases hL:L.ownBlock<;>simp[hT,hP,hL]
theorem XX{a P L:Option Nat}(h:(c::(T.toList++(P.toList++(L.toList++R)))).Nodup)(e:∀b∈c::(T.toList++(P.toList++(L.toList++R))),b<n)(i:∀g,r=some g->n<=g)(d:a=T\/∃t,a=some t/\n<=t/\∀g,r=some g->g≠t):(c::(a.toList++(P.toList++(L.toList++(R++r.toList))))).Nodup:=by
 rcases d with rfl|⟨t,rfl,j,f⟩
 .cases a<;>cases P<;>cases L<;>cases r<;>simp_all [nodup_append]<;>grind
 .cases T<;>cases P<;>cases L<;>cases r<;>simp_all [nodup_append]<;>grind
theorem ND{P L:Option Nat}(h:(a::(T.toList++(P.toList++(L.toList++R)))).Nodup):
 (∀g,T=some g->g≠a)/\(∀g,P=some g->g≠a/\T≠some g)/\(∀g,L=some g->g≠a/\T≠some g)/\(∀g∈R,g≠a/\T≠some g):=by
 cases T<;>cases P<;>cases L<;>simp_all<;>grind
theorem As{b:Zj}(h:w.ownsRow a e size v n b)(k:∀g,v.ownBlock=some g->w'.1[g]?=w.1[g]?):w'.ownsRow a e size v n b:=by
 refine⟨h.1,?_⟩;rcases h.2 with j|⟨g,c,d,rfl,f,i,rest⟩
 .exact .inl j
 .exact .inr ⟨g,c,d,rfl,f,(k g rfl).ah i,rest⟩
theorem FT{c:Dj}(b:(c.map (·.sum)).Nodup){u v:Kd}(d:u∈c)(e:v∈c)(h:u.sum=v.sum):u=v:=by
 induction c with
 |nil=>cases d
 |cons x xs ih=>
  simp only[map_cons,nodup_cons,mem_map,not_exists,not_and]at b;rcases Bv.1 d with a|a<;>rcases Bv.1 e with hv'|hv'
  .rw[a,hv']
  .exact absurd (a▸h.symm) (b.1 v hv')
  .exact absurd (hv'▸h) (b.1 u a)
  .exact ih b.2 a hv'
def z7:Zj:=[Ze,Ze,Ze,Ze,Zb,Zb,Zb]
theorem Hb(h:Aa w b z7):(w.cell? (Zd b 0)=some Ze/\w.frozen? ⟨b,0,none⟩=false)/\(w.cell? (Zd b 1)=some Ze/\w.frozen? ⟨b,1,none⟩=false)/\(w.cell? (Zd b 2)=some Ze/\w.frozen? ⟨b,2,none⟩=false)/\(w.cell? (Zd b 3)=some Ze/\w.frozen? ⟨b,3,none⟩=false)/\(w.cell? (Zd b 4)=some Zb/\w.frozen? ⟨b,4,none⟩=false)/\(w.cell? (Zd b 5)=some Zb/\w.frozen? ⟨b,5,none⟩=false)/\(w.cell? (Zd b 6)=some Zb/\w.frozen? ⟨b,6,none⟩=false):=
 ⟨h 0 _ rfl,h 1 _ rfl,h 2 _ rfl,h 3 _ rfl,h 4 _ rfl,h 5 _ rfl,h 6 _ rfl⟩
theorem Aaf(h:Aa w b z7)(a c d e f g i:D4):Aa (((((((w.setCell (Zd b 0) a).setCell (Zd b 1) c).setCell (Zd b 2) d).setCell (Zd b 3) e).setCell (Zd b 4) f).setCell (Zd b 5) g).setCell (Zd b 6) i) b [a,c,d,e,f,g,i]:=
 (((((((h.set 0 a).set 1 c).set 2 d).set 3 e).set 4 f).set 5 g).set 6 i)
theorem Hc{d:Zj}(h:w.ownsRow c e size v n d)(a:∀g,v.ownBlock=some g->g≠b)(f i j k l m o:D4):(((((((w.setCell (Zd b 0) f).setCell (Zd b 1) i).setCell (Zd b 2) j).setCell (Zd b 3) k).setCell (Zd b 4) l).setCell (Zd b 5) m).setCell (Zd b 6) o).ownsRow c e size v n d:=
 BH (BH (BH (BH (BH (BH (BH h a 0 _) a 1 _) a 2 _) a 3 _) a 4 _) a 5 _) a 6 _
theorem FA{a:Zh}(h:Below B a w)(c:B<=b)(d e f g i j k:D4):Below B a (((((((w.setCell (Zd b 0) d).setCell (Zd b 1) e).setCell (Zd b 2) f).setCell (Zd b 3) g).setCell (Zd b 4) i).setCell (Zd b 5) j).setCell (Zd b 6) k):=
 ((((((h.setCell c d).setCell c e).setCell c f).setCell c g).setCell c i).setCell c j).setCell c k
def Uc(b:Nat)(P L:Value):Prop:=(∀g,P.ownBlock=some g->g≠b)/\(∀g,L.ownBlock=some g->g≠b)/\(∀g,P.ownBlock=some g->L.ownBlock=some g->False)
theorem Ud(zJ d m:Nat)(O P L:D4)(wd R s p:Int)(c:Dj)(z:Dy)(t:Dv)(w:Zh)(A:Dr w zJ d m O P L wd R s p c z t)(yY:(c.map (·.sum)).Nodup)(xD:∀k∈c,(k.sum.size:Int)=wd)(hk:c.length<=600)(hp:z.length<=100)(hl:t.length<=200)(zZ:∀k∈c,k.B.length<=30):
 D8 27 #[Yy d] w λe a=>∃T B q Z,e=C5 (.agg #[Zg wd,Zg R,Zg s,Zg p,T,B,q])/\Ba a w.1.size T B q Z c z t/\Zz w a:=by
 obtain⟨pa,zP,rfl⟩:=Aq A.cj;obtain⟨la,zO,rfl⟩:=Aq A.dq;obtain⟨oa,xJ,rfl⟩:=Aq A.ord;have HD:=Yw A;have xS:=A.box.lt;have⟨W,D⟩:=D6 w Yi 27;have zT:=(AE D).1;have E:=(AE D).2.1;have G:Aa W w.1.size z7:=(AE D).2.2;have zK:=Yw (A.A zT)
 have F:Hid (∀X,Zz W X->D8 59 #[C1 pa z zP] X λe a=>∃B C,e=C5 (C1 B z C)/\a.ownsRow X.1.size 71 2 (C1 B z C) z.length (Ab pC z)/\Zz X a):=
  λX J=>JE pa zP z X (AU.own (Ah zK.cj J)) Yv
 have q:Hid (∀X,Zz W X->D8 60 #[C1 la t zO] X λe a=>∃B C,e=C5 (C1 B t C)/\a.ownsRow X.1.size 73 3 (C1 B t C) t.length (Ab lC t)/\Zz X a):=
  λX J=>IC la zO t X (AS.own (Ah zK.dq J)) Yv
 have K:Hid (∀X,Zz W X->X.cell? (Zd d 0)=some (Zg wd)/\X.cell? (Zd d 2)=some (Zg R)/\X.cell? (Zd d 3)=some (Zg s)/\X.cell? (Zd d 4)=some (Zg p)/\X.cell? (Zd d 6)=some (C1 pa z zP)/\X.cell? (Zd d 7)=some (C1 la t zO)):=
  λX J=>d8 (zK.box.A J)
 have U:Below W.1.size W W.drew:=Ad.drew;have Y:∀o,Zz W (W.alloc o).drew:=λo=>(Zy).drew;have B:=Yw D;have b:=Yw G;have zB:=Yw E;clear A D G E;go_enter func27,ntmps27;go_upto_region 1 with fail;rw[<-B.o];clear B
 go_cut [3] (λv D=>∃(C:Nat) (G A:Zk) (H B:Nat),v=Yy C/\Hid (Aa D C (Yh wd R s p none 0 0 G z.length H A t.length B)/\D.ownsRow W.1.size 71 2 (C1 G z H) z.length (Ab pC z)/\D.ownsRow W.1.size 73 3 (C1 A t B) t.length (Ab lC t)/\Uc C (C1 G z H) (C1 A t B)/\W.1.size<=C/\Zz W D))
 case first=>
  go_region_held3 (λa=>a.cell? (Zd d 0)=some (Zg wd)/\a.cell? (Zd d 2)=some (Zg R)/\a.cell? (Zd d 3)=some (Zg s)/\a.cell? (Zd d 4)=some (Zg p)/\a.cell? (Zd d 6)=some (C1 pa z zP)/\a.cell? (Zd d 7)=some (C1 la t zO))
   (first
     |with_reducible exact K.o _ U
     |with_reducible exact K.o _ (Y _)
     |with_reducible exact K.o _ I
     |with_reducible exact K.o _ S
     |with_reducible exact K.o _ (I.alloc I.size _)
     |with_reducible exact K.o _ (S.alloc S.size _)
     |with_reducible exact K.o _ (FA S V _ _ _ _ _ _ _))
   (first
     |(go_at_call 59;guard_target=~D8 59 _ (drew (alloc W _)) _;refine(F (W.alloc (.cells Yi 27)).drew (Y _)).aj ?_;rintro e D ⟨G,H,rfl,N,zA⟩;have I:Below W.1.size W D:=(Y _).ah (zA.aj Yu);have nA:Aa D W.1.size z7:=(Aa.A (w:=W.alloc (.cells Yi 27)) (Aa.new W _ _) (Dm zA)))
     |(go_at_call 59;guard_target=~D8 59 _ (drew W) _;refine(F W.drew U).aj ?_;rintro e D ⟨G,H,rfl,N,zA⟩;have I:Below W.1.size W D:=U.ah zA)
     |(go_at_call 60;have zV:=nA;refine(q D I).aj ?_;rintro e w2 ⟨A,B,rfl,Q,E⟩;have S:Below W.1.size W w2:=I.ah (E.aj I.size);have n2:Aa w2 W.1.size z7:=(Aa.A nA E);have V:W.1.size<=W.1.size:=Zx;have⟨⟨y0,q0⟩,⟨y1,q1⟩,⟨y2,q2⟩,⟨y3,q3⟩,⟨y4,q4⟩,⟨y5,q5⟩,y6,q6⟩:=Hb n2)
     |(go_at_call 60;guard_target=~D8 60 _ (alloc D _) _;refine(q (D.alloc (.cells Yi 27)) (I.alloc I.size _)).aj ?_;rintro e w2 ⟨A,B,rfl,Q,E⟩;have S:Below W.1.size W w2:=(I.alloc I.size _).ah (E.aj (by have:=I.size;simp;omega));have nB:Aa w2 D.1.size z7:=(Aa.A (Aa.new D _ _) E);have V:W.1.size<=D.1.size:=I.size;have⟨⟨y0,q0⟩,⟨y1,q1⟩,⟨y2,q2⟩,⟨y3,q3⟩,⟨y4,q4⟩,⟨y5,q5⟩,y6,q6⟩:=Hb nB)
     |(go_at_call 60;refine(q D I).aj ?_;rintro e w2 ⟨A,B,rfl,Q,E⟩;have nC:=N;have S:Below W.1.size W w2:=I.ah (E.aj I.size)))
  all_goals (go_wp2_with fail;go_meet)
  all_goals first
   |(have zV:=nA
     have zz:=zB.o;have l1:∀g,(C1 G z H).ownBlock=some g->W.1.size+1<=g/\g<D.1.size:=λg a=>by have:=Ac N a;simp at this;omega
     have l2:∀g,(C1 A t B).ownBlock=some g->D.1.size<=g:=λg a=>(Ac Q a).1;have z1:W.1.size+1<=D.1.size:=by have:=zA.size;simp at this;omega
     exact⟨W.1.size,G,A,H,B,rfl,Aaf n2 _ _ _ _ _ _ _,Hc (Ah (N.aj Yu) E) (λg a=>Dz (l1 g a)) _ _ _ _ _ _ _,Hc (Q.aj Yv) (λg a=>Dz (l2 g a)) _ _ _ _ _ _ _,⟨λg a=>Dz (l1 g a),λg a=>Dz (l2 g a),λg a M=>by have:=l1 g a;have:=l2 g M;omega⟩,Zx,FA S (Zx) _ _ _ _ _ _ _⟩)
   |(have zV:=nB
     have l1:∀g,(C1 G z H).ownBlock=some g->W.1.size<=g/\g<D.1.size:=λg a=>by have:=Ac N a;simp at this;omega
     have l2:∀g,(C1 A t B).ownBlock=some g->D.1.size+1<=g:=λg a=>by have:=(Ac Q a).1;simp at this;omega
     exact⟨D.1.size,G,A,H,B,rfl,Aaf nB _ _ _ _ _ _ _,Hc (Ah (Ah (N.aj Yu) (Zy)) E) (λg a=>Dz (l1 g a)) _ _ _ _ _ _ _,Hc (Q.aj Yt) (λg a=>Dz (l2 g a)) _ _ _ _ _ _ _,⟨λg a=>Dz (l1 g a),λg a=>Dz (l2 g a),λg a M=>by have:=l1 g a;have:=l2 g M;omega⟩,V,FA S V _ _ _ _ _ _ _⟩)
   |(have zV:=nC
     have l1:∀g,(C1 G z H).ownBlock=some g->W.1.size<=g/\g<D.1.size:=λg a=>by have:=Ac N a;simp at this;omega
     have l2:∀g,(C1 A t B).ownBlock=some g->D.1.size<=g/\g<w2.1.size:=λg a=>Ac Q a;have z2:=E.size;exact⟨w2.1.size,G,A,H,B,rfl,Aa.new w2 _ _,Ah (Ah (N.aj Yu) E) (Zy),Ah (Q.aj I.size) (Zy),⟨λg a=>Dz (l1 g a),λg a=>Dz (l2 g a),λg a M=>by have:=l1 g a;have:=l2 g M;omega⟩,S.size,S.alloc S.size _⟩)
 case rest=>
  revert wc;intro wN hcut;obtain⟨C,G,A,H,B,rfl,HC⟩:=hcut;have yG:Hid (Zz w wN):=zT.ah (HC.2.2.2.2.2.aj zT.size);have M:=(zK.box.A HC.2.2.2.2.2);obtain⟨e5,_⟩:=M 5 _ rfl;have zN:=HC.2.2.2.2.2.size;have xW:W.1.size<=C:=HC.2.2.2.2.1;have yL:Hid (Aa wN w.1.size z7):=Aa.A (v:=Ze) (l:=z7.tail) b HC.2.2.2.2.2;clear M F q K U Y b;go_wp2
  go_loopw [40] (λi wr=>∃(k:Nat) (T:D4) (Z:Zj),k<=c.length/\i=Zg k/\Hid (Aa wr C [Zg wd,Zg R,Zg s,Zg p,T,C1 G z H,C1 A t B]/\Aa wr w.1.size z7/\wr.ownsRow W.1.size 68 4 T k (Ab kC ((c.take k).zip Z))/\Z.length=k/\(∀(i:Nat) (x:Kd) (r:D4),(c.take k)[i]?=some x->Z[i]?=some r->wr.ownsRow W.1.size 9 1 r x.B.length (x.B.map string))/\wr.ownsRow W.1.size 71 2 (C1 G z H) z.length (Ab pC z)/\wr.ownsRow W.1.size 73 3 (C1 A t B) t.length (Ab lC t)/\(C::BX T (C1 G z H) (C1 A t B) Z).Nodup)/\Zz w wr) (λi _=>c.length -(intOf i).toNat)
  case atStart=>
   refine⟨0,Zb,[],Az _,rfl,⟨HC.1,yL,⟨rfl,.inl ⟨rfl,rfl⟩⟩,rfl,λi x r q=>by simp at q,HC.2.1,HC.2.2.1,?_⟩,yG⟩;have h3:=HC.2.2.2.1;unfold Uc at h3;unfold BX;generalize (C1 G z H).ownBlock=x1 at *
   generalize (C1 A t B).ownBlock=x2 at *
   cases x1<;>cases x2<;>simp_all [ownBlock]<;>grind
  case round=>
   obtain⟨k,T,Z,xT,rfl,HI,F⟩:=hrel;by_cases hlt:k<c.length
   .obtain⟨n,f,hn,hM,hH⟩:=HD.map;have zU:=F.size;have ho:wr.ownsRow zJ 75 8 (C1 oa c xJ) c.length (AH (c.map (·.sum))):=Pk HD.ord F (λg a=>(Ac HD.ord a).2);obtain⟨og,oc,yT,_,xU⟩:=BF ho (λe=>by injection e with _ h2 _;omega);cases yT;have HG:Hid (c[k]?=some c[k]):=Zv hlt;have K:c[k]∈c:=getElem_mem hlt;have xF:=xD _ K;have xP:=zZ _ K
    have h:(c.map (·.sum))[k]?=some c[k].sum:=by simp[hlt]
    have q:∀j,j<8->wr.cell? (Zd og (k *8+j))=some (.int .u8 (kB c[k].sum j)):=λj M=>(ho.cellAt _ Yv).ah (EQ h M);have⟨M,rc,b,yI⟩:∃M rc,f (keyL c[k].sum)=some (CW c[k] M rc)/\Hid (Af w w.1.size M c[k].B):=by
     rcases hH _ xF with⟨_,yZ⟩|⟨u,M,rc,hu,xE,yV,xB⟩
     .exact absurd ⟨_,K,rfl⟩ yZ
     .obtain rfl:=FT yY hu K xE;exact⟨M,rc,yV,xB.row⟩
    have y:∀X,Zz wr X->(Instr.lookup 79 (.map (some m)) (Ca c[k].sum) false).run prog X=.ok (CW c[k] M rc) X:=λX J=>by have:=(hM.ag (F.ah (J.aj zU)) hM.lt).look keyed underlying79 (IQ _) (CE c[k].sum);rw[b]at this;exact this
    have dr:Aa wr d _:=Aa.A HD.box F;have yB:=q 0 Yv;have yM:=q 1 Yv;have yN:=q 2 Yv;have yO:=q 3 Yv;have yP:=q 4 Yv;have yQ:=q 5 Yv;have yR:=q 6 Yv;have yS:=q 7 Yv;rw[Nat.add_zero]at yB;have HX:Hid (c.take (k+1)=c.take k++[c[k]]):=Zu hlt;unfold Ca Cy CW at y;clear ho q h hH b K hM;generalize c[k]=x at *
    have⟨q,K⟩:=D6 wr (Yk (kB x.sum)) 75;have b:=(AE K).1;have z1:=(AE K).2.1;have K1:=(AE K).2.2
    have h:Hid (∀X,Zz q X->X.cell? (Zd d 1)=some (.map (some m))/\(X.cell? (Zd (wr.1.size) 0)=some (.int .u8 (kB x.sum 0))/\X.cell? (Zd (wr.1.size) 1)=some (.int .u8 (kB x.sum 1))/\X.cell? (Zd (wr.1.size) 2)=some (.int .u8 (kB x.sum 2))/\X.cell? (Zd (wr.1.size) 3)=some (.int .u8 (kB x.sum 3))/\X.cell? (Zd (wr.1.size) 4)=some (.int .u8 (kB x.sum 4))/\X.cell? (Zd (wr.1.size) 5)=some (.int .u8 (kB x.sum 5))/\X.cell? (Zd (wr.1.size) 6)=some (.int .u8 (kB x.sum 6))/\X.cell? (Zd (wr.1.size) 7)=some (.int .u8 (kB x.sum 7)))/\(Instr.lookup 79 (.map (some m)) (.agg (Yk (kB x.sum))) false).run prog X=.ok (.agg #[C4 x.sum,Zg x.born,C4 x.J,C1 M x.B rc]) X):=
     λX J=>⟨((dr.A (b.ah (J.aj b.size))) 1 _ rfl).1,ZX (J.block _ Yv) K1,y X (b.ah (J.aj b.size))⟩
    have U:Below q.1.size q q.drew:=Ad.drew;have Y:∀o,Zz q (q.alloc o).drew:=λo=>(Zy).drew;have o:=Yw K;have zE:=Yw z1;have yF:=Yw b;clear K z1 y K1 b dr;go_upto_region 5 with fail;rw[<-o.o];clear o yB yM yN yO yP yQ yR yS
    go_region_held3 (λX=>X.cell? (Zd d 1)=some (.map (some m))/\(X.cell? (Zd (wr.1.size) 0)=some (.int .u8 (kB x.sum 0))/\X.cell? (Zd (wr.1.size) 1)=some (.int .u8 (kB x.sum 1))/\X.cell? (Zd (wr.1.size) 2)=some (.int .u8 (kB x.sum 2))/\X.cell? (Zd (wr.1.size) 3)=some (.int .u8 (kB x.sum 3))/\X.cell? (Zd (wr.1.size) 4)=some (.int .u8 (kB x.sum 4))/\X.cell? (Zd (wr.1.size) 5)=some (.int .u8 (kB x.sum 5))/\X.cell? (Zd (wr.1.size) 6)=some (.int .u8 (kB x.sum 6))/\X.cell? (Zd (wr.1.size) 7)=some (.int .u8 (kB x.sum 7)))/\(Instr.lookup 79 (.map (some m)) (.agg (Yk (kB x.sum))) false).run prog X=.ok (.agg #[C4 x.sum,Zg x.born,C4 x.J,C1 M x.B rc]) X)
     (first|with_reducible exact h.o _ U|with_reducible exact h.o _ (Y _))
     (fail)
    all_goals
     clear h U Y;have⟨X,K⟩:=Ae ((q.alloc (.cells #[C4 x.sum,Zg x.born,C4 x.J,C1 M x.B rc] 68)).drew);have b2:Below q.1.size q X:=by rw[K];exact(Zy).drew
     have z2:X.1.size=q.1.size+1:=by rw[K];simp
     have y:Aa X q.1.size [C4 x.sum,Zg x.born,C4 x.J,C1 M x.B rc]:=by rw[K];exact Aa.new q _ _
     have z1:=zE.o;have b:Below wr.1.size wr X:=yF.ah (b2.aj Yv);have R2:Af X X.1.size M x.B:=Af.aj (Af.A yI (F.ah (b.aj zU))) Yv;rw[<-K];obtain⟨k3,_⟩:=y 3 _ rfl;have zR:=Yw z2;have xA:x.B.length<=1048576:=Yv
     clear K z1 z2;go_wp2_with fail;refine(Pj M rc x.B X R2 xA).aj ?_;rintro e o ⟨a3,c3,rfl,h,K⟩;clear k3;have z1:=zE.o;have z2:=zR.o;have U:Below wr.1.size wr o:=b.ah (K.aj Yv);have z3:=K.size;have⟨i1,i2,Y,i4,i5,i6,i7,i8⟩:=HI.o;have zW:=zB.o;have S3:=Aa.A i1 U;obtain⟨ta,tc,rfl⟩:=Aq Y;obtain⟨s4,f4⟩:=S3 4 _ rfl;have xC:C<wr.1.size:=i1.lt;have zY:¬C=q.1.size:=Yv
     have xN:¬q.1.size=C:=Yv
     obtain⟨k0,k1,k2⟩:=Aa.c3 (Aa.A y K) 0 1 2;obtain⟨k3,g3⟩:=Aa.A y K 3 _ rfl;have yK:=Yw (Ah Y U);have zF:∀g,(C3 ta k tc).ownBlock=some g->W.1.size<=g/\g<wr.1.size:=λg a=>Ac Y a;have zS:∀g,(C1 a3 x.B c3).ownBlock=some g->X.1.size<=g/\g<o.1.size:=λg a=>Ac h a;have yH:=Yw h;have zI:=Yw U;have yJ:=Yw S3;have xQ:W.1.size<=o.1.size:=Yv
     obtain⟨i0,hi,xG,xH,xI⟩:=info_parts GY;have yA:=Yw z3;clear y b2 b R2 i1 i2 Y i4 i5 i6 i7 i8 K h U S3 z1 z2 z3 zW;go_wp2_with (first
      |(at_builtin;refine wpList_append_own_at _ rfl _ _ 23 rfl W.1.size 68 i0 _ 4 64 underlying23 hi xG xH xI rfl Yq _ k (Ab kC ((c.take k).zip Z)) rfl ?d0 ⟨o.1.size,0,none⟩ 1 1 (kC (x,C1 a3 x.B c3)) rfl rfl ?d2 ?d3 ?d4 ?d5 ?d6 ?_)
      |go_in)
     case d0=>exact Ah (BH yK (λg a=>by have:=zF g a;have:=zE.o;omega) 3 _) (Zy)
     case d2=>
      intro j u hu;rw[A3,A0];have:=(Aa.new (o.setCell (Zd (q.1.size) 3) (C1 a3 x.B c3)) (kC (x,C1 a3 x.B c3)) 68) j u hu;simpa [kC]using this.1
     case d3=>
      intro u hu;simp[kC]at hu;rcases hu with rfl|rfl|rfl|rfl<;>rfl
     case d4=>unfold maxLen;omega
     case d5=>omega
     case d6=>simp;omega
     intro v4 w4 zC zH K zG;obtain⟨g4,c4,rfl,xK,xL⟩:=BF zC (λe=>by subst e;rcases zC.2 with⟨_,hn⟩|⟨_,_,_,e,_⟩<;>first|omega|cases e);have⟨i1,i2,Y,i4,i5,i6,i7,i8⟩:=HI.o;have nf:=ND i8;have z1:=zE.o;have z2:=zR.o;have z3:=yA.o;have zW:=zB.o;have J:∀b,b<o.1.size->b≠q.1.size->(C3 ta k tc).ownBlock≠some b->w4.1[b]?=o.1[b]?:=λb U zA E=>by rw[zH.block b Yt (λe=>E e.symm),Below.heap_alloc _ _ _ Yt,Below.heap_setCell _ _ _ _ (D2 zA)]
     have S4:=Aa.same yJ (J C Yv zY (λe=>nf.1 _ e rfl));obtain⟨_,xR⟩:=S4 4 _ rfl;obtain⟨xV,_⟩:=S4 4 _ rfl;have xM:g4≠C:=by
      rcases zG with ha|ha
      .exact nf.1 g4 ha.symm
      .simp[ownBlock]at ha;omega
     have HF:=Yw (Zn S4 (Zn J (Zn zC (Zn zG zH))));clear S4 J zC zG zH i1 i2 Y i4 i5 i6 i7 i8 nf z1 z2 z3 zW s4 f4 k0 k1 k2 k3 g3 K;go_wp2;have⟨S4,J,zC,zG,zH⟩:=HF.o;have⟨i1,i2,Y,i4,i5,i6,i7,i8⟩:=HI.o;have nf:=ND i8;have z1:=zE.o;have z2:=zR.o;have z3:=yA.o;have zW:=zB.o
     have hY:∀b,b<o.1.size->b≠q.1.size->b≠C->(C3 ta k tc).ownBlock≠some b->(w4.setCell (Zd C 4) (Yz g4 (k+1) c4)).1[b]?=o.1[b]?:=λb K h2 h3 h=>(Below.heap_setCell _ _ _ _ (D2 h3)).ah (J b K h2 h)
     have zM:∀b,b<wr.1.size->b≠C->(C3 ta k tc).ownBlock≠some b->(w4.setCell (Zd C 4) (Yz g4 (k+1) c4)).1[b]?=wr.1[b]?:=λb K h3 h=>(hY b Yv Yv h3 h).ah (zI.block b K);have yD:∀r∈Z,∀g,r.ownBlock=some g->g<wr.1.size:=by
      intro r K g a;have⟨i,hi⟩:=A5 K;have yX:i<k:=Dz (Zw hi).1
      exact(Ac (i5 i _ r (by rw[getElem?_take_of_lt yX];exact Zv Yv) hi) a).2
     refine⟨⟨k+1,Yz g4 (k+1) c4,Z++[C1 a3 x.B c3],Yv,Yn,⟨Aa.set S4 4 _,?_,?_,?_,?_,?_,?_,?_⟩,?_⟩,Ys⟩
     .exact Aa.same i2 (zM w.1.size Yv Yv (λe=>Dz (zF _ e).1))
     .rw[HX.o,zip_append (by rw[i4,Ct];omega),Bn];exact BH zC (λg a=>by simp[ownBlock]at a;omega) 4 _
     .simp[i4]
     .intro i y r hy K;rw[HX.o]at hy;have zX:(c.take k).length=k:=by rw[Ct];omega
      rcases Bz i k with h|h
      .rw[getElem?_append_left Yv]at hy K;refine As (i5 i y r hy K) (λg a=> ?_);have:=nf.2.2.2 g (mem_filterMap.2 ⟨r,Zs K,a⟩);exact zM g (yD r (Zs K) g a) this.1 this.2
      .have yW:i=k:=by have:=(Zw K).1;simp at this;omega
       subst yW;rw[getElem?_append_right Yv,zX,Nat.sub_self]at hy;rw[getElem?_append_right Yv,i4,Nat.sub_self]at K;simp at hy K;subst hy;subst K;refine As (ownsRow.aj yH Yv) (λg a=> ?_);have:=zS g a;exact hY g this.2 Yv Yv (λe=>Dz (zF g e).2)
     .exact As i6 (λg a=>zM g (Ac i6 a).2 (nf.2.1 g a).1 (nf.2.1 g a).2)
     .exact As i7 (λg a=>zM g (Ac i7 a).2 (nf.2.2.1 g a).1 (nf.2.2.1 g a).2)
     .unfold BX;rw[filterMap_append];have yU:filterMap ownBlock [C1 a3 x.B c3]=(C1 a3 x.B c3).ownBlock.toList:=by cases h:(C1 a3 x.B c3).ownBlock<;>simp[h]
      rw[yU];refine XX (n:=wr.1.size) i8 ?_ (λg a=>Dz (zS g a).1) ?_
      .intro b U;simp only[Bv,A7,A8,mem_filterMap]at U;rcases U with rfl|U|U|U|⟨r,K,U⟩
       .exact xC
       .exact(zF _ U).2
       .exact(Ac i6 U).2
       .exact(Ac i7 U).2
       .exact yD r K b U
      .rcases zG with ha|ha
       .exact .inl ha
       .refine .inr ⟨o.1.size+1,D2 ha,Yv,λg a=>Dz (zS g a).2⟩
     .have hq:Below w.1.size w o:=F.ah (zI.aj zU);exact(((hq.setCell Yt _).alloc Yt _).grown zH Yt (λg a=>Dz (zF g a).1)).setCell Yt _
   .obtain rfl:k=c.length:=Yv
    have⟨i1,i2,Y,i4,i5,i6,i7,i8⟩:=HI.o;have zW:=zB.o;have⟨⟨y0,q0⟩,⟨y1,q1⟩,⟨y2,q2⟩,⟨y3,q3⟩,⟨y4,q4⟩,⟨y5,q5⟩,y6,q6⟩:=Hb i2;obtain⟨ta,tc,rfl⟩:=Aq Y;obtain⟨x0,x1,x2,x3,x4,x5,x6⟩:=Aa.c7 i1 0 1 2 3 4 5 6;have xO:¬C=w.1.size:=Yv
    have yE:¬w.1.size=C:=Yv
    have x:=Yw (Zn i2 (Zn Y (Zn i4 (Zn i5 (Zn i6 (Zn i7 i8))))));clear i1 i2 Y i4 i5 i6 i7 i8 zW;go_wp2;have zW:=zB.o
    have Y:∀{e:TypeId} {size:Nat} {v:D4} {n:Nat} {xs:Zj},wr.ownsRow W.1.size e size v n xs->(((((((wr.setCell (Zd (w.1.size) 0) (Zg wd)).setCell (Zd (w.1.size) 1) (Zg R)).setCell (Zd (w.1.size) 2) (Zg s)).setCell (Zd (w.1.size) 3) (Zg p)).setCell (Zd (w.1.size) 4) (C1 ta c tc)).setCell (Zd (w.1.size) 5) (C1 G z H)).setCell (Zd (w.1.size) 6) (C1 A t B)).ownsRow w.1.size e size v n xs:=λh=>ownsRow.aj (Hc h (λg a=>Dz (Ac h a).1) _ _ _ _ _ _ _) Yv
    have yC:c.take c.length=c:=Zt (Zx);refine C0 (.agg (C9 wd R s p ta c tc G z H A t B)) (by simp[results,results27,go_sem,y0,y1,y2,y3,y4,y5,y6]) ⟨_,_,_,Z,rfl,⟨x.2.2.1,?_,?_,Y x.2.2.2.2.1,Y x.2.2.2.2.2.1,?_⟩,FA F (Zx) _ _ _ _ _ _ _⟩
    .have:=x.2.1;rw[yC]at this;exact Y this
    .intro i y r hy K;exact Y (x.2.2.2.1 i y r (by rw[yC];exact hy) K)
    .rw[Fo];exact(nodup_cons.1 x.2.2.2.2.2.2).2
def kI(s:Zi):List Int:=[kB s 0,kB s 1,kB s 2,kB s 3,kB s 4,kB s 5,kB s 6,kB s 7]
def Fh(s t:Zi):Int:=Lib.compareBytes (Lib.bytesOf (kI s)) (Lib.bytesOf (kI t))
theorem XY(x:List UInt8):Lib.compareBytes x x=0:=by
 induction x with
 |nil=>rfl
 |cons a x ih=>unfold Lib.compareBytes;simp[ih,UInt8.lt_irrefl]
theorem Pn(z:List UInt8):∀(x y:List UInt8),x.length=y.length->Lib.compareBytes (x++z) (y++z)=Lib.compareBytes x y
 |[],[],_=>by rw[nil_append,XY];rfl
 |a::x,b::y,h=>by have c:=Pn z x y (D2 h);show Lib.compareBytes (a::(x++z)) (b::(y++z))=_;unfold Lib.compareBytes;rw[c]
theorem Ue:∀(x y:List UInt8),x.length=y.length->(Lib.compareBytes x y<0↔x<y)
 |[],[],_=>by simp[Lib.compareBytes]
 |a::x,b::y,h=>by
  have c:=Ue x y (D2 h);unfold Lib.compareBytes;rw[cons_lt_cons_iff,<-c];by_cases h1:a<b
  .simp[h1]
  .by_cases h2:b<a
   .have:¬a=b:=λe=>by subst e;exact absurd h2 (UInt8.lt_irrefl _)
    simp[h1,h2,this]
   .have:a=b:=UInt8.le_antisymm (UInt8.not_lt.1 h2) (UInt8.not_lt.1 h1);simp[this]
theorem Ru:∀(x y:List UInt8),x.length=y.length->(Lib.compareBytes x y=0↔x=y)
 |[],[],_=>by simp[Lib.compareBytes]
 |a::x,b::y,h=>by
  have c:=Ru x y (D2 h);unfold Lib.compareBytes;by_cases h1:a<b
  .have:¬a=b:=λe=>by subst e;exact absurd h1 (UInt8.lt_irrefl _)
   simp[h1,this]
  .by_cases h2:b<a
   .have:¬a=b:=λe=>by subst e;exact absurd h2 (UInt8.lt_irrefl _)
    simp[h1,h2,this]
   .have:a=b:=UInt8.le_antisymm (UInt8.not_lt.1 h2) (UInt8.not_lt.1 h1);simp[this,c]
theorem LS(s:Zi)(h:s.size<=8):Lib.bytesOf (kI s)=s.data.toList++replicate (8 -s.size) 0:=by
 have c:=BQ s;have b:∀i,(kB s i).toNat.toUInt8=(s.data.toList[i]?).getD 0:=λi=>by unfold kB;simp
 unfold kI Lib.bytesOf;simp only[map_cons,map_nil,b];apply ext_getElem?;intro i;rw[getElem?_append];rw[c];rcases Bz i 8 with a|a
 .have e:([(s.data.toList[0]?).getD 0,(s.data.toList[1]?).getD 0,(s.data.toList[2]?).getD 0,(s.data.toList[3]?).getD 0,(s.data.toList[4]?).getD 0,(s.data.toList[5]?).getD 0,(s.data.toList[6]?).getD 0,(s.data.toList[7]?).getD 0]:List UInt8)[i]?=some ((s.data.toList[i]?).getD 0):=by rcases(show i=0\/i=1\/i=2\/i=3\/i=4\/i=5\/i=6\/i=7 by omega)with rfl|rfl|rfl|rfl|rfl|rfl|rfl|rfl<;>rfl
  rw[e];by_cases hi:i<s.size
  .rw[if_pos hi,Zv Yv];rfl
  .rw[if_neg hi,getElem?_eq_none Yv,getElem?_replicate,if_pos Yv];rfl
 .rw[getElem?_eq_none Yt,if_neg Yv,getElem?_eq_none Yt]
theorem Vy(b:s.size<=8)(a:t.size=s.size):Fh s t<0↔less s t=true:=by unfold Fh less;rw[LS s b,LS t Yv,a,Pn _ _ _ (by rw[BQ,BQ,a]),Ue _ _ (by rw[BQ,BQ,a]),ByteArray.toList_eq,ByteArray.toList_eq,OW]
theorem Uf(b:s.size<=8)(a:t.size=s.size):Fh s t=0↔s=t:=by
 unfold Fh;rw[LS s b,LS t Yv,a,Pn _ _ _ (by rw[BQ,BQ,a]),Ru _ _ (by rw[BQ,BQ,a])];constructor
 .intro h;exact toList_inj (by rw[ByteArray.toList_eq,ByteArray.toList_eq];exact h)
 .rintro rfl;rfl
theorem Po(h:Aa w b (Au s)):∀j x,(kI s)[j]?=some x->w.cell? ((⟨b,0,none⟩:Addr).add j)=some (.int .u8 x):=by intro j x a;rw[A3,A0];have c:j<8:=(Zw a).1;refine(h j (.int .u8 x) ?_).1;unfold Au Cy;unfold kI at a;rcases(show j=0\/j=1\/j=2\/j=3\/j=4\/j=5\/j=6\/j=7 by omega)with rfl|rfl|rfl|rfl|rfl|rfl|rfl|rfl<;>(simp at a;subst a;rfl)
theorem QL(w:Zh)(a b:Nat)(s t:Zi)(f:Aa w a (Au s))(g:Aa w b (Au t)):
 (callFunc 172 #[Yz a 8 8,Yz b 8 8]).run prog w=.ok (.value (Zg (Fh s t))) w:=by
 rw[run_callFunc_extern (fn:=f172) (e:=Extern.BytealgCompare.compare) func172 Yr Yr Yr Yr];have c:=Lib.run_loadBytesX (P:=prog) w (kI s) ⟨a,0,none⟩ .empty (Po f);have d:=Lib.run_loadBytesX (P:=prog) w (kI t) ⟨b,0,none⟩ .empty (Po g);have h:∀l:List UInt8,(⟨ByteArray.empty.data++l.toArray⟩:Zi)=⟨l.toArray⟩:=λl=>by apply ByteArray.ext;show(#[]:Array UInt8)++l.toArray=l.toArray;simp
 rw[h]at c d;change (Sem.run prog (do pure (goInt (Extern.BytealgCompare.cmp (<-Extern.Bytes.bytesOf (Yz a 8 8)) (<-Extern.Bytes.bytesOf (Yz b 8 8))))) w).andThen _=_;simp only[Extern.Bytes.bytesOf,Sem.run_bind,Sem.run_pure];rw[show(8:Nat)=(kI s).length from rfl,c];rw[Result.andThen_ok,show(kI s).length=(kI t).length from rfl,d];simp only[Result.andThen];rw[Lib.cmp_eq];rfl
theorem Lg(w:Zh)(a b:Nat)(s t:Zi)(c:Aa w a (Au s))(d:Aa w b (Au t)):
 D8 151 #[Yz a 8 8,Yz b 8 8] w λe f=>e=C5 (Zg (Fh s t))/\f=w:=by
 have f:=QL w a b s t c d;clear c d;go_enter func151,ntmps151;go_wp2;go_ret;exact⟨rfl,rfl⟩
theorem LW(s t:Zi)(w:Zh):
 D8 150 #[Ca s,Ca t] w λe a=>e=C5 (Zg (Fh s t))/\Zz w a:=by
 have⟨W,a⟩:=Ae ((w.alloc (.cells (Yk (kB s)) 75)).alloc (.cells (Yk (kB t)) 75));have g:=(Bi a).1;have d:Aa W w.1.size (Au s):=by rw[a];exact Aa.A (v:=.int .u8 (kB s 0)) (Aa.new w (Au s) 75) (Zy)
 have f:Aa W (w.1.size+1) (Au t):=by have:=Aa.new (w.alloc (.cells (Yk (kB s)) 75)) (Au t) 75;rw[Al]at this;rw[a];exact this
 have b:=Yw (Za d f);have c:=Yw a;clear a d f;unfold Ca Cy;go_enter func150,ntmps150;go_upto_region 1 with fail;rw[<-c.o];clear c;go_region_with (go_at_call 151;refine(Lg W.drew w.1.size (w.1.size+1) s t b.1 b.2).aj ?_;rintro e a ⟨rfl,rfl⟩)
 all_goals
  go_wp2;go_ret;exact⟨rfl,g.drew⟩
structure Fp (ss:Zl) (s:Zi) (i:Nat):Prop where
 le:i<=ss.length
 lo:∀j x,j<i->ss[j]?=some x->less x s=true
 hi:∀j x,i<=j->ss[j]?=some x->less x s=false
theorem XZ{a:Zl}(f:w.ownsRow b 75 8 (Yz g a.length d) a.length (AH a))(c:a[k]?=some s):∀j,j<8->w.cell? (Zd g (k *8+j))=some (.int .u8 (kB s j)):=λj e=>by have:=(Zw c).1;exact(f.cellAt _ Yv).ah (EQ c e)
theorem Aag{a:Zl}(d:w.ownsRow b 75 8 (Yz g a.length c) a.length (AH a))(e:a[k]?=some s):
 w.cell? (Zd g (k *8))=some (.int .u8 (kB s 0))/\w.cell? (Zd g (k *8+1))=some (.int .u8 (kB s 1))/\w.cell? (Zd g (k *8+2))=some (.int .u8 (kB s 2))/\w.cell? (Zd g (k *8+3))=some (.int .u8 (kB s 3))/\w.cell? (Zd g (k *8+4))=some (.int .u8 (kB s 4))/\w.cell? (Zd g (k *8+5))=some (.int .u8 (kB s 5))/\w.cell? (Zd g (k *8+6))=some (.int .u8 (kB s 6))/\w.cell? (Zd g (k *8+7))=some (.int .u8 (kB s 7)):=
 have h:=XZ d e
 ⟨D2 (h 0 Yq),h 1 Yq,h 2 Yq,h 3 Yq,h 4 Yq,h 5 Yq,h 6 Yq,h 7 Yq⟩
theorem Hd(h:Aa w g (Au s)):
 w.cell? (Zd g 0)=some (.int .u8 (kB s 0))/\w.cell? (Zd g 1)=some (.int .u8 (kB s 1))/\w.cell? (Zd g 2)=some (.int .u8 (kB s 2))/\w.cell? (Zd g 3)=some (.int .u8 (kB s 3))/\w.cell? (Zd g 4)=some (.int .u8 (kB s 4))/\w.cell? (Zd g 5)=some (.int .u8 (kB s 5))/\w.cell? (Zd g 6)=some (.int .u8 (kB s 6))/\w.cell? (Zd g 7)=some (.int .u8 (kB s 7)):=
 ⟨(h 0 _ rfl).1,(h 1 _ rfl).1,(h 2 _ rfl).1,(h 3 _ rfl).1,(h 4 _ rfl).1,(h 5 _ rfl).1,(h 6 _ rfl).1,(h 7 _ rfl).1⟩
theorem LX(g zE:Nat)(f:Zl)(s:Zi)(w:Zh)(zC:Nat)(l:w.ownsRow zC 75 8 (C3 (some ⟨g,0,none⟩) f.length zE) f.length (AH f))(hl:f.length<=600)(zO:s.size<=8)(zH:∀x∈f,x.size=s.size)(n:f.Pairwise (λa b=>less a b=true)):
 D8 149 #[C3 (some ⟨g,0,none⟩) f.length zE,Ca s,.func (.func 150) #[] #[]] w λe w'=>∃i:Nat,e=C5 (.tuple #[Zg i,.bool (decide (f[i]?=some s))])/\Fp f s i/\Zz w w':=by
 unfold Ca Cy;have zM:=(Ac l rfl).2;have⟨W,c⟩:=D6 w (Yk (kB s)) 75;have N:=(AE c).1;have k:Aa W w.1.size (Au s):=by rw[c];exact Aa.new w (Au s) 75
 have d:=Ah l N;have o:Hid _:=c;have HO:Hid _:=d;have HC:Hid _:=k;have zP:=Aa.lt (v:=.int .u8 (kB s 0)) k;clear c d k l;go_enter func149,ntmps149;go_upto_region 1 with fail;rw[<-o.o];clear o;have c:=enters_of func150 Yr rfl;go_wp2
 go_loopw [9,10] (λi j wr=>∃d k:Nat,i=Zg d/\j=Zg k/\d<=k/\k<=f.length/\Hid ((∀j x,j<d->f[j]?=some x->less x s=true)/\(∀j x,k<=j->f[j]?=some x->less x s=false))/\Zz W wr) (λi j _=>(intOf j).toNat -(intOf i).toNat)
 case atStart=>exact⟨0,f.length,rfl,rfl,Az _,Zx,⟨λj x h=>Yv,λj x h c=>Dz (Zw c).1⟩,Ad⟩
 case round=>
  obtain⟨d,k,rfl,rfl,zN,zF,HI,c⟩:=hrel;have q:=c.size;by_cases hlt:d<k
  .have O:(d+k)/2<f.length:=Yv
   have o:Hid _:=Zv O;have zK:=zH _ (getElem_mem O);generalize f[(d+k)/2]=x at *
   have⟨r0,P,Q,R,S,T,r6,U⟩:=Aag (Ah HO c) o;obtain⟨V,X,Y,Z,a,b,i,t7⟩:=Hd (Aa.A (v:=.int .u8 (kB s 0)) HC c);have r:=Ao.cell r0 (show g<wr.1.size by omega);have u:=Ao.cell P (show g<wr.1.size by omega);have z:=Ao.cell Q (show g<wr.1.size by omega);have A:=Ao.cell R (show g<wr.1.size by omega);have B:=Ao.cell S (show g<wr.1.size by omega)
   have C:=Ao.cell T (show g<wr.1.size by omega);have D:=Ao.cell r6 (show g<wr.1.size by omega);have E:=Ao.cell U (show g<wr.1.size by omega);have F:=Ao.cell V (show w.1.size<wr.1.size by omega);have G:=Ao.cell X (show w.1.size<wr.1.size by omega);have H:=Ao.cell Y (show w.1.size<wr.1.size by omega);have I:=Ao.cell Z (show w.1.size<wr.1.size by omega)
   have J:=Ao.cell a (show w.1.size<wr.1.size by omega);have K:=Ao.cell b (show w.1.size<wr.1.size by omega);have L:=Ao.cell i (show w.1.size<wr.1.size by omega);have M:=Ao.cell t7 (show w.1.size<wr.1.size by omega);have zG:=Ao.ne wr
   have l:Hid (∀m:Ao wr,D8 150 #[.agg (Yk (kB x)),.agg (Yk (kB s))] m.w λe w'=>e=C5 (Zg (Fh x s))/\Below m.w.1.size m.w w'):=λm=>LW x s m.w;clear r0 P Q R S T r6 U V X Y Z a b i t7;have zA:Hid _:=Vy (s:=x) (t:=s) Yv Yv;by_cases hc:Fh x s<0
   .have hd:decide (Fh x s<0)=true:=D2 hc
    go_wp2;refine Ax Yr Yr ?_
    repeat (go_big_quiet_step (exact Ao.calls (l _)))
    refine wpQuiet_nil ?_;intro m;clear r u z A B C D E F G H I J K L M l;go_wp2;refine⟨⟨(d+k)/2+1,k,Yn,rfl,Yv,zF,⟨?_,HI.2⟩,c.ah (m.h.aj q)⟩,Ys⟩;intro j y hj p;rcases Bz j ((d+k)/2)with h|h
    .have:=pairwise_iff_getElem.1 n j ((d+k)/2) Yv O h;obtain⟨_,rfl⟩:=Zw p;have⟨_,e⟩:=Zw o;rw[e]at this;exact BV this (zA.1 hc)
    .obtain rfl:j=(d+k)/2:=Yv
     rw[o.o]at p;cases p;exact zA.1 hc
   .have hd:decide (Fh x s<0)=false:=D2 hc
    have zI:Hid _:=hc;clear hc;go_wp2;refine Ax Yr Yr ?_
    repeat (go_big_quiet_step (exact Ao.calls (l _)))
    refine wpQuiet_nil ?_;intro m;clear r u z A B C D E F G H I J K L M l;go_wp2;refine⟨⟨d,(d+k)/2,rfl,Yn,Yv,Yv,⟨HI.1,?_⟩,c.ah (m.h.aj q)⟩,Ys⟩;have zB:less x s=false:=by
     cases h:less x s with
     |false=>rfl
     |true=>exact absurd (zA.2 h) zI
    intro j y hj p;rcases Bz ((d+k)/2) j with h|h
    .have zJ:=(Zw p).1;have:=pairwise_iff_getElem.1 n ((d+k)/2) j O zJ h;obtain⟨_,rfl⟩:=Zw p;have⟨_,e⟩:=Zw o;rw[e]at this;cases h':less f[j] s with
     |false=>rfl
     |true=>rw[BV this h']at zB;cases zB
    .obtain rfl:j=(d+k)/2:=Yv
     rw[o.o]at p;cases p;exact zB
  .obtain rfl:d=k:=Yv
   have HP:Hid (Fp f s d):=⟨zF,HI.1,HI.2⟩;by_cases hn:d<f.length
   .have o:Hid _:=Zv hn;have zK:=zH _ (getElem_mem hn);generalize f[d]=x at *
    have⟨r0,P,Q,R,S,T,r6,U⟩:=Aag (Ah HO c) o;obtain⟨V,X,Y,Z,a,b,i,t7⟩:=Hd (Aa.A (v:=.int .u8 (kB s 0)) HC c);have r:=Ao.cell r0 (show g<wr.1.size by omega);have u:=Ao.cell P (show g<wr.1.size by omega);have z:=Ao.cell Q (show g<wr.1.size by omega);have A:=Ao.cell R (show g<wr.1.size by omega);have B:=Ao.cell S (show g<wr.1.size by omega)
    have C:=Ao.cell T (show g<wr.1.size by omega);have D:=Ao.cell r6 (show g<wr.1.size by omega);have E:=Ao.cell U (show g<wr.1.size by omega);have F:=Ao.cell V (show w.1.size<wr.1.size by omega);have G:=Ao.cell X (show w.1.size<wr.1.size by omega);have H:=Ao.cell Y (show w.1.size<wr.1.size by omega);have I:=Ao.cell Z (show w.1.size<wr.1.size by omega)
    have J:=Ao.cell a (show w.1.size<wr.1.size by omega);have K:=Ao.cell b (show w.1.size<wr.1.size by omega);have L:=Ao.cell i (show w.1.size<wr.1.size by omega);have M:=Ao.cell t7 (show w.1.size<wr.1.size by omega);have zG:=Ao.ne wr
    have l:Hid (∀m:Ao wr,D8 150 #[.agg (Yk (kB x)),.agg (Yk (kB s))] m.w λe w'=>e=C5 (Zg (Fh x s))/\Below m.w.1.size m.w w'):=λm=>LW x s m.w;clear r0 P Q R S T r6 U V X Y Z a b i t7;have P:Hid _:=Uf (s:=x) (t:=s) Yv Yv;by_cases hc:Fh x s=0
    .have hd:(Fh x s==0)=true:=D2 hc
     go_wp2;refine Ax Yr Yr ?_
     repeat (go_big_quiet_step (exact Ao.calls (l _)))
     refine wpQuiet_nil ?_;intro m;clear r u z A B C D E F G H I J K L M l;go_wp2
     go_ret2
     refine⟨d,?_,HP,N.ah ((c.ah (m.h.aj q)).aj N.size)⟩;rw[o.o,P.1 hc,decide_eq_true rfl];rfl
    .have hd:(Fh x s==0)=false:=D2 hc
     go_wp2;refine Ax Yr Yr ?_
     repeat (go_big_quiet_step (exact Ao.calls (l _)))
     refine wpQuiet_nil ?_;intro m;clear r u z A B C D E F G H I J K L M l;go_wp2
     go_ret2
     refine⟨d,?_,HP,N.ah ((c.ah (m.h.aj q)).aj N.size)⟩;rw[o.o,decide_eq_false (λe=>hc (P.2 (A4 e)))];rfl
   .have zG:=Ao.ne wr;go_wp2;refine Ax Yr Yr ?_
    repeat (go_big_quiet_step (fail))
    refine wpQuiet_nil ?_;intro m;go_wp2
    go_ret2
    refine⟨d,?_,HP,N.ah ((c.ah (m.h.aj q)).aj N.size)⟩;rw[getElem?_eq_none Yv,decide_eq_false Yu];rfl
section
open Go.WideElems Go.MapKept Go.ChangeMaps
open Classical in
noncomputable def gn (f:Lit->Option Value) (kl:Lit):Lit->Option Value:=fun x=>if x=kl then none else f x
theorem AN.del{K t:TypeId}{f:Lit->Option Value}(h:AN w K b n f)(p:Maps.Keyed prog K)(u:prog.underlying t=some (.map K e)){j:D4}{a:Lit}(d:keyOf prog K j=some a)(k:TypeId):
 ∃c,(Builtin.delete_ #[t,K] k #[.map (some b),j]).run prog w=.ok (.tuple #[]) c/\AN c K b n (gn f a)/\w.grownBy c (some b):=by
 obtain⟨D,l,m,o⟩:=h;obtain⟨c,s,r,y,clock,v,g,A,rfl⟩:=l.drop p u d k;refine⟨_,s,⟨_,r,λx z=> ?_,λx=> ?_⟩,?_⟩
 .by_cases hx:x=a
  .subst hx;rw[Maps.atKey_del_same];simp[gn]
  .rw[Maps.atKey_del_other hx,m];simp[gn,hx]
 .by_cases hx:x=a
  .subst hx;rw[Maps.has_del_same];simp[gn]
  .rw[Maps.has_del_other hx,o];simp[gn,hx]
 .refine⟨rfl,rfl,rfl,by simp[setBlock],λi _ q=> ?_⟩;simp only[setBlock];rw[Array.getElem?_setIfInBounds_ne (λe=>q (by rw[e]))]
theorem YA(w:Zh):(zeroValue 75).run prog w=.ok (.agg Cp) w:=Yr
theorem Ol(w:Zh)(i:TypeId)(b o c:Nat)(g:∀j,j<8->(w.cell? (Zd b (o+j))).isSome=true)(h:∀j,j<8->w.frozen? ⟨b,o+j,none⟩=false):
 (Builtin.clear_ #[87] i #[C3 (some ⟨b,o,none⟩) 1 c]).run prog w=.ok (.tuple #[]) (w.setCells b o Cp.toList):=by
 have e:(Builtin.zeroCells (agg Cp).cells 1).toList=Cp.toList:=Yr
 have a:=run_storeCells_cells (P:=prog) b o Cp.toList 0 w (by simpa [Cp]using g) (by simpa [Cp]using h) (by intro v d;simp[Cp]at d;subst d;rfl);simp only[Nat.add_zero]at a;have f:=YA;unfold Cp at e a f |-;simp[Builtin.clear_,run_underlying underlying87,f,e,a]
theorem He{c:Zj}:∀(vs:Zj) (o:Nat) (w:Zh),w.ownsRow a e size (Yz g n b) n c->n *size<=o->(w.setCells g o vs).ownsRow a e size (Yz g n b) n c
 |[],_,_,h,_=>h
 |v::r,o,w,h,ho=>by rw[setCells];refine He r (o+1) _ ?_ Yv;have:=(h.stored o v).1;rw[set_eq_of_length_le (by rw[h.1];exact ho)]at this;exact this
theorem Ci(g:Nat):∀(vs:Zj) (o:Nat) (w:Zh),w.grownBy (w.setCells g o vs) (some g)
 |[],_,w=>⟨rfl,rfl,rfl,Zx,λ_ _ _=>rfl⟩
 |v::r,o,w=>by rw[setCells];exact Aj (Av w g o v) (Ci g r (o+1) _)
theorem Dn{a:Zh}(h:w.drew.grownBy a r):w.grownBy a r:=⟨h.os,h.tape,h.output,h.size,h.block⟩
theorem YB{b:Zl}(h:w.ownsRow a 75 8 (Yz g b.length c) b.length (AH b))(i:Nat)(o:i<=b.length):w.ownsRow a 75 8 (Yz g i c) i (AH (b.take i)):=by
 refine⟨by rw[Da,Ct];congr 1;omega,?_⟩;rcases h.2 with⟨e,_⟩|⟨p,f,d,e,m,n,q,j,k,l⟩
 .cases e
 .cases e;refine .inr ⟨g,c,d,rfl,m,n,Yv,j,k,?_⟩;rw[Gh,<-FR EF b i o,<-Gh,<-l,take_take];congr 1;omega
theorem Om(g b i:Nat)(a:Zl)(w:Zh)(f:Nat)(p:w.ownsRow f 75 8 (Yz g a.length b) a.length (AH a))(W:a.length<=600)(V:i<a.length):
 D8 129 #[Yz g a.length b,Zg i,Zg ((i:Int)+1)] w λe c=>e=C5 (Yz g (a.length -1) b)/\c.ownsRow f 75 8 (Yz g (a.length -1) b) (a.length -1) (AH (a.eraseIdx i))/\w.grownBy c (some g):=by
 obtain⟨I,n,Q,C,R⟩:=info_parts Ks;have m:a.length<=b/\b<=maxLen:=by
  rcases p.2 with⟨e,_⟩|⟨E,l,y,e,H,v,s,t,F,G⟩
  .cases e
  .cases e;exact⟨s,t⟩
 obtain⟨J,z⟩:=m;unfold maxLen at z;have hcut:=YB p i Yv;have⟨A,U,d⟩:∃A,(if b=i+1 then some (⟨g,0,none⟩:Addr)else some ⟨g,(i+1) *8,none⟩)=some A/\∀j u,(AH (a.drop (i+1)))[j]?=some u->w.drew.cell? (A.add j)=some u:=by
  by_cases h:b=i+1
  .refine⟨⟨g,0,none⟩,by rw[if_pos h],λj u c=> ?_⟩;rw[drop_of_length_le Yv]at c;simp[AH]at c
  .refine⟨⟨g,(i+1) *8,none⟩,by rw[if_neg h],λj u c=> ?_⟩;rw[A3];rw[Gh,<-EE EF a (i+1) Yv,<-Gh,getElem?_drop]at c;have B:=(Zw c).1;rw[Da]at B;exact(p.cellAt _ Yv).ah c
 obtain⟨q,x,c,k⟩:=run_append_fits (P:=prog) w.drew f 87 87 75 I 8 underlying87 n C g i b (AH (a.take i)) hcut A (a.length -(i+1)) (b -(i+1)) (AH (a.drop (i+1))) (by rw[Da,length_drop]) d (Dx _) Yv;rw[<-Gu,show i+(a.length -(i+1))=a.length -1 by omega]at c;rw[show i+(a.length -(i+1))=a.length -1 by omega]at x;have o:=(eraseIdx_eq_take_drop_succ a i).symm;rw[o]at c
 have r:=Yw (Zn c k);clear d c hcut o;go_enter func129,ntmps129;have K:¬((i:Int)==(i:Int)+1)=true:=Yt
 have L:i<=b:=Yv
 have M:(0:Int)<=(i:Int)+1:=Yv
 have N:(i:Int)+1<=(a.length:Int):=Yv
 have O:((i:Int)+1).toNat=i+1:=Yv
 go_upto_region 5 with fail
 go_region_law (first
  |(refine Bt Yp (.tmp 22) (.tmp 25) 87 87 Yp Yp (by simp[Act.eval,Act.put]) x ?_))
 all_goals
  have o:∀j,j<8->(q.cell? (Zd g ((a.length -1) *8+j))).isSome=true/\q.frozen? ⟨g,(a.length -1) *8+j,none⟩=false:=λj d=>by
   have⟨c,k⟩:=r.o;rcases c.2 with⟨e,_⟩|⟨E,l,y,e,H,v,s,t,F,G⟩
   .cases e
   .cases e;constructor
    .simp only[cell?,v];rw[Cf Yv];rfl
    .exact c.frozenAt _
  have D:=Ol q 0 g ((a.length -1) *8) (b -(a.length -1)) (λj d=>(o j d).1) (λj d=>(o j d).2);have d:a.length -(a.length -1)=1:=Yv
  have S:¬b=a.length -1:=Yv
  have T:a.length -1<=a.length:=Yv
  go_wp2;go_ret;have⟨c,k⟩:=r.o;exact⟨rfl,He _ _ _ c (Zx),Aj (Dn k) (Ci g _ _ _)⟩
theorem Ug(f d m g j:Nat)(P L:D4)(M B n h:Int)(c:List Kd)(s:Zi)(w:Zh)(k:Aa w d [Zg M,.map (some m),Zg B,Zg n,Zg h,Yz g c.length j,P,L])(l:w.ownsRow f 75 8 (Yz g c.length j) c.length (AH (c.map (·.sum))))(I:c.length<=600)(z:s.size<=8)(A:∀x∈c,x.sum.size=s.size)(o:(c.map (·.sum)).Pairwise (λa b=>less a b=true)):
 D8 128 #[Yy d,Ca s] w λe p=>∃i:Nat,e=.returned (.tuple #[Zg i,.bool (decide ((c.map (·.sum))[i]?=some s))])/\Fp (c.map (·.sum)) s i/\Zz w p:=by
 have⟨W,q⟩:=D6 w (Yk (kB s)) 75;have p:=(AE q).1;have v:Aa W w.1.size (Au s):=by rw[q];exact Aa.new w (Au s) 75
 have r:W.drew.ownsRow f 75 8 (Yz g (c.map (·.sum)).length j) (c.map (·.sum)).length (AH (c.map (·.sum))):=by rw[A9];exact Ah l p.drew
 have t:=Yw (LX g j (c.map (·.sum)) s W.drew f r (by rw[A9];exact I) z (λx u=>by obtain⟨y,J,rfl⟩:=mem_map.1 u;exact A y J) o);rw[A9]at t
 have H:W.drew.cell? (Zd d 5)=some (Yz g c.length j)/\(W.drew.cell? (Zd (w.1.size) 0)=some (.int .u8 (kB s 0))/\W.drew.cell? (Zd (w.1.size) 1)=some (.int .u8 (kB s 1))/\W.drew.cell? (Zd (w.1.size) 2)=some (.int .u8 (kB s 2))/\W.drew.cell? (Zd (w.1.size) 3)=some (.int .u8 (kB s 3))/\W.drew.cell? (Zd (w.1.size) 4)=some (.int .u8 (kB s 4))/\W.drew.cell? (Zd (w.1.size) 5)=some (.int .u8 (kB s 5))/\W.drew.cell? (Zd (w.1.size) 6)=some (.int .u8 (kB s 6))/\W.drew.cell? (Zd (w.1.size) 7)=some (.int .u8 (kB s 7))):=⟨(Aa.A k p 5 _ rfl).1,Hd v⟩
 have u:=Yw q;clear q v r k l;unfold Ca Cy at *
 go_enter func128,ntmps128;go_upto_region 1 with fail;rw[<-u.o];clear u;obtain⟨K,r,u,v,C,D,E,F,G⟩:=H;go_region_with (go_at_call 149;refine t.Ai ?_;rintro e N ⟨i,rfl,q,l⟩)
 all_goals
  have k:=Yw (Zn q (p.ah ((Dm l).aj p.size)));clear q l K r u v C D E F G t;go_wp2
  go_ret2
  exact⟨i,by first|rfl|simp[Act.put],k.1,k.2⟩
end
theorem Vz(x:Zi)(w:Zh):D8 163 #[C4 x] w λe a=>e=C5 (.bool false)/\Zz w a:=by go_enter func163,ntmps163;go_wp2;go_ret;exact⟨Yu,Ad⟩
theorem VA(x:Zi)(w:Zh):D8 179 #[C4 x] w λe a=>e=C5 (.bool false)/\Zz w a:=by go_enter func179,ntmps179;go_wp2;go_ret;exact⟨Yu,Ad⟩
theorem NE(x y:Zi)(w:Zh):D8 178 #[C4 x,C4 y] w λe a=>e=C5 (.bool (less x y))/\Zz w a:=by go_enter func178,ntmps178;unfold less;go_wp2_with (go_at_call 163;refine(Vz x w).aj ?_;rintro e b ⟨rfl,a⟩);go_wp2;go_ret;exact⟨Yu,a⟩
theorem QM(a:Zk)(I:Nat)(g:Zl)(s:Zi)(w:Zh)(p:Af w w.1.size a g)(Q:g.length<=1000)(k:g.Pairwise (λa b=>less a b=true)):
 D8 171 #[C3 a g.length I,C4 s] w λe c=>∃(i:Int) (ok:Bool),e=C5 (.tuple #[Zg i,.bool ok])/\(ok=true↔s∈g)/\Zz w c:=by
 have P:=Yw NE;go_enter func171,ntmps171;go_wp2
 go_loopw [7,8] (λi j wr=>∃c f:Nat,i=Zg c/\j=Zg f/\c<=f/\f<=g.length/\Hid ((∀j x,j<c->g[j]?=some x->less x s=true)/\(∀j x,f<=j->g[j]?=some x->less x s=false))/\Zz w wr) (λi j _=>(intOf j).toNat -(intOf i).toNat)
 case atStart=>exact⟨0,g.length,rfl,rfl,Az _,Zx,⟨λj x h=>Yv,λj x h E=>Dz (Zw E).1⟩,Ad⟩
 case round=>
  obtain⟨c,f,rfl,rfl,O,J,z,d⟩:=hrel;have C:=d.size;by_cases hlt:c<f
  .have r:(c+f)/2<g.length:=Yv
   have m:=Yw (Zv r);have⟨b,K,D,L,l⟩:=(p.A d).at r;subst D;have E:=l _ _ m;clear l;generalize g[(c+f)/2]=x at *
   go_wp2_with fail;refine(NE x s wr).aj ?_;rintro e N ⟨rfl,u⟩;have B:=d.ah (u.aj C);by_cases l:less x s=true
   .rw[l];go_wp2;refine⟨⟨(c+f)/2+1,f,Yn,rfl,Yv,J,⟨?_,z.2⟩,B⟩,Ys⟩;intro j y q n;rcases Bz j ((c+f)/2)with h|h
    .have:=pairwise_iff_getElem.1 k j ((c+f)/2) Yv r h;obtain⟨_,rfl⟩:=Zw n;have⟨_,e⟩:=Zw m;rw[e]at this;exact BV this l
    .obtain rfl:j=(c+f)/2:=Yv
     rw[m.o]at n;cases n;exact l
   .have t:less x s=false:=D2 l
    rw[t];go_wp2;refine⟨⟨c,(c+f)/2,rfl,Yn,Yv,Yv,⟨z.1,?_⟩,B⟩,Ys⟩;intro j y q n;rcases Bz ((c+f)/2) j with h|h
    .have v:=(Zw n).1;have:=pairwise_iff_getElem.1 k ((c+f)/2) j r v h;obtain⟨_,rfl⟩:=Zw n;have⟨_,e⟩:=Zw m;rw[e]at this;cases A:less g[j] s with
     |false=>rfl
     |true=>rw[BV this A]at t;cases t
    .obtain rfl:j=(c+f)/2:=Yv
     rw[m.o]at n;cases n;exact t
  .obtain rfl:c=f:=Yv
   have o:s∈g->g[c]?=some s:=λF=>by
    have⟨j,q⟩:=A5 F;rcases Bz j c with h|h
    .have:=z.1 j s h q;rw[By]at this;cases this
    .rcases Bz c j with A|A
     .have v:=(Zw q).1;have G:=pairwise_iff_getElem.1 k c j Yv v A;have H:=z.2 c _ (Zx) (Zv Yv);have⟨_,e⟩:=Zw q;rw[e]at G;rw[G]at H;cases H
     .obtain rfl:j=c:=Yv
      exact q
   have F:=Yw o;clear o;by_cases hn:c<g.length
   .have m:=Yw (Zv hn);have⟨b,K,D,L,l⟩:=(p.A d).at hn;subst D;have E:=l _ _ m;clear l;generalize g[c]=x at *
    by_cases he:x=s
    .subst he;have l:=Zs m;have o:=Yw l;clear l;have M:(x.toList==x.toList)=true:=Yu
     go_wp2
     go_ret2
     exact⟨_,true,by first|rfl|simp[Act.put],⟨λ_=>o.o,λ_=>rfl⟩,d⟩
    .have l:¬s∈g:=by intro h;have:=F h;rw[m.o]at this;exact he (A4 this)
     have o:=Yw l;clear l;have M:=Br he;go_wp2_with (go_at_call 179;refine(VA x wr).aj ?_;rintro e N ⟨rfl,u⟩);go_wp2
     go_ret2
     exact⟨_,false,by first|rfl|simp[Act.put],⟨(λh=>by cases h),(λh=>absurd h o)⟩,d.ah (u.aj C)⟩
   .have l:¬s∈g:=by intro h;have:=(Zw (F h)).1;omega
    have o:=Yw l;clear l;go_wp2
    go_ret2
    exact⟨_,false,by first|rfl|simp[Act.put],⟨(λh=>by cases h),(λh=>absurd h o)⟩,d⟩
theorem Gi(t:Zi)(k:Zk)(r:Nat)(b:Zl)(w:Zh)(O:Af w w.1.size k b)(s:k=none->b.length=0/\r=0)(T:b.length<=1048576):
 D8 77 #[.agg #[C4 t,C3 k b.length r]] w λe d=>∃g c,e=C5 (.agg #[C4 t,Yz g b.length c])/\
  d.ownsRow w.1.size 9 1 (Yz g b.length c) b.length (b.map string)/\Zz w d:=by
 have⟨P,N,H,I,J⟩:=info_parts CC;have⟨o,d⟩:=D6 w #[C4 t,C1 k b r] 30;have l:=(AE d).1;have A:=(AE d).2.2;have u:=(AE d).2.1;have⟨W,q⟩:=D6 o #[Zc,Zb] 30;have m:=(AE q).1;have n:=(AE q).2.2;have C:=A.A m;have h:=l.ah (m.aj l.size);have x:=n.lt;have⟨B,D⟩:=Ae o.1.size;have z:w.1.size<B:=Yv
 rw[<-D]at n x;have i:w.1.size<W.1.size:=Yv
 have G:=Yw d;have L:=Yw q;have M:Hid (w.1.size+1=B):=by show _=_;omega
 obtain⟨E,F⟩:=Aa.c2 C 0 1;have f:Below W.1.size W (W.alloc (.cells #[] 9)):=Zy;have Q:(W.alloc (.cells #[] 9)).drew.ownsRow (B+1) 9 1 (Yz W.1.size 0 0) 0 (([]:Zl).map string):=ownsRow_lit W #[] 0 Yv Yo rfl;have R:=(Af.A O (h.ah (f.drew.aj h.size))).bk;have X:=(f.cell (p:=⟨w.1.size,0,none⟩) i).ah E
 have Y:=(f.cell (p:=⟨w.1.size,1,none⟩) i).ah F;have K:=Yw n;have y:=Yw h;clear d q D l m A n C h u;go_enter func77,ntmps77;go_upto_region 1 with fail;rw[<-G.o,<-L.o,M.o]
 go_region_law (first
  |(refine AA (W.alloc (.cells #[] 9)).drew rfl (.tmp 5) (.tmp 7) 28 rfl (B+1) 9 P Zc 16 underlying28 N H I J rfl W.1.size 0 0 [] rfl Q k b.length r b rfl rfl s R Yo Yv Yt ?_;intro D h S l n q u;simp only[A0,nil_append]at l;have d:Below W.1.size W S:=f.drew.grown n Yu (λj m=>by cases m;exact Zx);have m:=Aa.A K d;obtain⟨y0,f0⟩:=m 0 _ rfl;obtain⟨y1,f1⟩:=m 1 _ rfl;have U:=(d.cell (p:=⟨w.1.size,0,none⟩) i).ah E;have V:=(d.cell (p:=⟨w.1.size,1,none⟩) i).ah F))
 all_goals
  have C:=Yw l;have A:=Yw (y.ah (d.aj y.size));go_wp2;refine C0 (.agg #[C4 t,C7 D b h]) (by simp[results,results77,go_sem, *]) ?_;refine⟨_,_,rfl,?_,?_⟩
  .exact(ownsRow_setCell_below (ownsRow_setCell_below C (a:=⟨B,0,none⟩) (Nat.lt_succ_self B) _) (a:=⟨B,1,none⟩) (Nat.lt_succ_self B) _).aj Yv
  .exact(A.setCell (p:=⟨B,0,none⟩) (Nat.le_of_lt z) _).setCell (p:=⟨B,1,none⟩) (Nat.le_of_lt z) _
def DC(rest:Zi)(bad:Bool)(n:Int):Zi×Zi×Bool:=
 if bad=true then (⟨#[]⟩,rest,true)else if (rest.size:Int)<n then (⟨#[]⟩,rest,true)else (rest.extract 0 n.toNat,rest.extract n.toNat rest.size,false)
def FB(l:List UInt8):Int:=l.foldl (fun a b=>a *256+(b.toNat:Int)) 0
def Pp(rest:Zi)(bad:Bool):Zi:=(DC rest bad rest.size).1
def Pq(rest:Zi)(bad:Bool):Zi:=(DC rest bad rest.size).2.1
def OL(rest:Zi)(bad:Bool)(wd:Int):Bool:=(DC rest bad rest.size).2.2|| !(rd (Pp rest bad) wd).2.2
