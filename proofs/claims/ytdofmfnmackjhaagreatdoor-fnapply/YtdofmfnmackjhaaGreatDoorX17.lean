import Derived.Test.YtdofmfnmackjhaaGreatDoorX14
import Derived.Test.YtdofmfnmackjhaaGreatDoorX10
set_option maxRecDepth 100000
set_option maxHeartbeats 16000000
namespace Go.Proofs.YtdofmfnmackjhaaGreatDoor
open ChangeShapes WideShapes ChangeAt RowKit _root_.Go.Proofs.Tryz List World Value
variable{w:Zh}{b c a:Dv}{e:TypeId}{size i g j base:Nat}{v P L T:Value}{n:Int}{d:Dy}{x:Ld}{s:Zi}{rs:Zj}
def DV(x y:Int):Int:=if x<y then -1 else if y<x then 1 else 0
theorem PQ(x y:Int):DV x y<0↔x<y:=by unfold DV;split<;>(try split)<;>omega
theorem NW(x y:Int):DV x y=0↔x=y:=by unfold DV;split<;>(try split)<;>omega
theorem PR(x:Int)(w:Zh):D8 145 #[Zg x] w λe a=>e=C5 (.bool false)/\a=w:=by
 have a:(x !=x)=false:=Yu
 go_enter func145,ntmps145;go_wp2;go_ret;exact⟨rfl,rfl⟩
theorem VQ(x y:Int)(w:Zh):D8 123 #[Zg x,Zg y] w λe a=>e=C5 (Zg (DV x y))/\a=w:=by
 go_enter func123,ntmps123;go_wp2_with fail;refine(PR x w).aj ?_;rintro e d ⟨rfl,rfl⟩;go_wp2_with fail;refine(PR y d).aj ?_;rintro e f ⟨rfl,rfl⟩;by_cases h1:x<y
 .have c:decide (x<y)=true:=D2 h1
  have a:DV x y= -1:=by unfold DV;rw[if_pos h1]
  clear h1;go_wp2;go_ret;exact⟨by rw[a];rfl,rfl⟩
 .have c:decide (x<y)=false:=D2 h1
  by_cases h2:y<x
  .have b:decide (y<x)=true:=D2 h2
   have a:DV x y=1:=by unfold DV;rw[if_neg h1,if_pos h2]
   clear h1 h2;go_wp2;go_ret;exact⟨by rw[a];rfl,rfl⟩
  .have b:decide (y<x)=false:=D2 h2
   have a:DV x y=0:=by unfold DV;rw[if_neg h1,if_neg h2]
   clear h1 h2;go_wp2;go_ret;exact⟨by rw[a];rfl,rfl⟩
def Ex(x y:Zi):Int:=if less x y=true then -1 else if x=y then 0 else 1
theorem PS(x y:Zi):Ex x y<0↔less x y=true:=by
 unfold Ex;by_cases h:less x y=true
 .rw[if_pos h];exact⟨λ_=>h,λ_=>Yv⟩
 .rw[if_neg h];refine⟨λe=> ?_,λe=>absurd e h⟩;split at e<;>omega
theorem JS(x y:Zi):Ex x y=0↔x=y:=by
 unfold Ex;by_cases h:less x y=true
 .rw[if_pos h];refine⟨λe=>Yv,λe=> ?_⟩;rw[e,By]at h;cases h
 .rw[if_neg h];split
  .rename_i h2;exact⟨λ_=>h2,λ_=>rfl⟩
  .rename_i h2;exact⟨λe=>Yv,λe=>absurd e h2⟩
theorem PT(x:Zi)(w:Zh):D8 163 #[C4 x] w λe a=>e=C5 (.bool false)/\a=w:=by
 have a:(x.toList !=x.toList)=false:=Yu
 go_enter func163,ntmps163;go_wp2;go_ret;exact⟨rfl,rfl⟩
theorem VR(x y:Zi)(w:Zh):D8 142 #[C4 x,C4 y] w λe a=>e=C5 (Zg (Ex x y))/\a=w:=by
 go_enter func142,ntmps142;go_wp2_with fail;refine(PT x w).aj ?_;rintro e c ⟨rfl,rfl⟩;go_wp2_with fail;refine(PT y c).aj ?_;rintro e d ⟨rfl,rfl⟩;cases h1:Op.bytesLess x.toList y.toList with
 |true=>
  have a:Hid (Ex x y= -1):=by show _=_;unfold Ex less;rw[if_pos h1]
  go_wp2;go_ret;exact⟨by rw[a.o];rfl,rfl⟩
 |false=>
  by_cases h2:x=y
  .have a:=Yw ((JS x y).2 h2);have b:(x.toList==y.toList)=true:=by rw[h2];simp
   clear h2;go_wp2;go_ret;exact⟨by rw[a.o];rfl,rfl⟩
  .have a:Hid (Ex x y=1):=by show _=_;unfold Ex less;rw[if_neg (by rw[h1];simp),if_neg h2]
   have b:=Br h2;clear h2;go_wp2;go_ret;exact⟨by rw[a.o];rfl,rfl⟩
theorem NX(x:Ld)(n:Int)(w:Zh):D8 122 #[.agg #[Zg x.G,C4 x.sum,Zg x.S],Zg n] w λe a=>e=C5 (Zg (DV x.G n))/\Zz w a:=by have a:∀o,Zz w (w.alloc o):=λo=>Zy;go_enter func122,ntmps122;go_wp2_with fail;refine(VQ x.G n _).aj ?_;rintro e b ⟨rfl,rfl⟩;go_wp2;go_ret;exact⟨rfl,a _⟩
theorem Mm(x:Pd)(n:Zi)(w:Zh):D8 141 #[.agg #[C4 x.name,C4 x.sum],C4 n] w λe a=>e=C5 (Zg (Ex x.name n))/\Zz w a:=by have a:∀o,Zz w (w.alloc o):=λo=>Zy;go_enter func141,ntmps141;go_wp2_with fail;refine(VR x.name n _).aj ?_;rintro e b ⟨rfl,rfl⟩;go_wp2;go_ret;exact⟨rfl,a _⟩
structure JT (ls:List Ld) (n:Int) (i:Nat):Prop where
 le:i<=ls.length
 lo:∀j x,j<i->ls[j]?=some x->x.G<n
 hi:∀j x,i<=j->ls[j]?=some x->n<=x.G
theorem Ii(g z:Nat)(d:Dv)(n:Int)(w:Zh)(v:Nat)(f:w.ownsRow v 73 3 (Yz g d.length z) d.length (Ab lC d))(S:d.length<=600)(c:d.Pairwise (λa b=>a.G<b.G)):
 D8 121 #[Yz g d.length z,Zg n,.func (.func 122) #[] #[]] w λe l=>∃i:Nat,e=C5 (.tuple #[Zg i,.bool (decide (∃x,d[i]?=some x/\x.G=n))])/\JT d n i/\Zz w l:=by
 have O:=(Ac f rfl).2;have Q:=Yw f;have G:Hid (∀(X:Zh),Zz w X->∀k x,d[k]?=some x->X.cell? (Zd g (k *3))=some (Zg x.G)/\X.cell? (Zd g (k *3+1))=some (C4 x.sum)/\X.cell? (Zd g (k *3+2))=some (Zg x.S)):=λX m k x l=>by have h:=Ah f m;have R:=(Zw l).1;have m:∀j,j<3->X.cell? (Zd g (k *3+j))=(lC x)[j]?:=λj C=>(h.cellAt (k *3+j) Yv).ah (BN CR l C);exact⟨by simpa [lC]using m 0 Yq,by simpa [lC]using m 1 Yq,by simpa [lC]using m 2 Yq⟩
 have H:=Yw c;clear f c;go_enter func121,ntmps121;have N:=enters_of func122 Yr rfl;go_wp2
 go_loopw [9,10] (λi j wr=>∃c f:Nat,i=Zg c/\j=Zg f/\c<=f/\f<=d.length/\Hid ((∀j x,j<c->d[j]?=some x->x.G<n)/\(∀j x,f<=j->d[j]?=some x->n<=x.G))/\Zz w wr) (λi j _=>(intOf j).toNat -(intOf i).toNat)
 case atStart=>exact⟨0,d.length,rfl,rfl,Az _,Zx,⟨λj x h=>Yv,λj x h l=>Dz (Zw l).1⟩,Ad⟩
 case round=>
  obtain⟨c,f,rfl,rfl,P,A,u,l⟩:=hrel;have B:=l.size;by_cases hlt:c<f
  .have t:(c+f)/2<d.length:=Yv
   have o:=Yw (Zv t);generalize d[(c+f)/2]=x at *
   obtain⟨r0,D,E⟩:=G wr l _ _ o;go_wp2_with fail;refine(NX x n wr).aj ?_;rintro e M ⟨rfl,s⟩;have q:=l.ah (s.aj B);clear r0 D E;by_cases m:x.G<n
   .have L:decide (DV x.G n<0)=true:=D2 ((PQ _ _).2 m)
    have r:=Yw m;clear m;generalize DV x.G n=cv at *
    go_wp2;refine⟨⟨(c+f)/2+1,f,Yn,rfl,Yv,A,⟨?_,u.2⟩,q⟩,Ys⟩;intro j y C p;rcases Bz j ((c+f)/2)with h|h
    .have:=pairwise_iff_getElem.1 H j ((c+f)/2) Yv t h;obtain⟨_,rfl⟩:=Zw p;have⟨_,e⟩:=Zw o;rw[e]at this;have K:=r.o;omega
    .obtain rfl:j=(c+f)/2:=Yv
     rw[o.o]at p;cases p;exact r.o
   .have L:decide (DV x.G n<0)=false:=by simpa using λe=>m ((PQ _ _).1 e)
    have r:=Yw (Int.not_lt.1 m);clear m;generalize DV x.G n=cv at *
    go_wp2;refine⟨⟨c,(c+f)/2,rfl,Yn,Yv,Yv,⟨u.1,?_⟩,q⟩,Ys⟩;intro j y C p;rcases Bz ((c+f)/2) j with h|h
    .have I:=(Zw p).1;have:=pairwise_iff_getElem.1 H ((c+f)/2) j t I h;obtain⟨_,rfl⟩:=Zw p;have⟨_,e⟩:=Zw o;rw[e]at this;have K:=r.o;omega
    .obtain rfl:j=(c+f)/2:=Yv
     rw[o.o]at p;cases p;exact r.o
  .obtain rfl:c=f:=Yv
   have F:Hid (JT d n c):=⟨A,u.1,u.2⟩;by_cases hn:c<d.length
   .have o:=Yw (Zv hn);generalize d[c]=x at *
    obtain⟨r0,D,E⟩:=G wr l _ _ o;have J:(c:Int)<d.length:=Yv
    go_wp2_with fail;refine(NX x n wr).aj ?_;rintro e M ⟨rfl,s⟩;have q:=l.ah (s.aj B);clear r0 D E;have m:Hid (decide (∃y,d[c]?=some y/\y.G=n)=(DV x.G n==0)):=by
     show _=_;rw[o.o];by_cases h:x.G=n
     .rw[(NW x.G n).2 h];simp[h]
     .have D:¬DV x.G n=0:=λe=>h ((NW x.G n).1 e);rw[show(DV x.G n==0)=false by simpa using D];simp[h]
    generalize DV x.G n=cv at *
    go_wp2
    go_ret2
    exact⟨c,by rw[m.o];first|rfl|simp[Act.put],F,q⟩
   .have m:Hid (decide (∃y,d[c]?=some y/\y.G=n)=false):=by show _=_;rw[getElem?_eq_none Yv];simp
    have J:¬((c:Int)<d.length):=Yv
    go_wp2
    go_ret2
    exact⟨c,by rw[m.o];first|rfl|simp[Act.put],F,l⟩
structure DW (ls:List Pd) (n:Zi) (i:Nat):Prop where
 le:i<=ls.length
 lo:∀j x,j<i->ls[j]?=some x->less x.name n=true
 hi:∀j x,i<=j->ls[j]?=some x->less x.name n=false
theorem Jn(g z:Nat)(d:Dy)(n:Zi)(w:Zh)(v:Nat)(f:w.ownsRow v 71 2 (Yz g d.length z) d.length (Ab pC d))(R:d.length<=600)(c:d.Pairwise (λa b=>less a.name b.name=true)):
 D8 140 #[Yz g d.length z,C4 n,.func (.func 141) #[] #[]] w λe l=>∃i:Nat,e=C5 (.tuple #[Zg i,.bool (decide (∃x,d[i]?=some x/\x.name=n))])/\DW d n i/\Zz w l:=by
 have N:=(Ac f rfl).2;have P:=Yw f;have F:Hid (∀(X:Zh),Zz w X->∀k x,d[k]?=some x->X.cell? (Zd g (k *2))=some (C4 x.name)/\X.cell? (Zd g (k *2+1))=some (C4 x.sum)):=λX m k x l=>by have h:=Ah f m;have Q:=(Zw l).1;have m:∀j,j<2->X.cell? (Zd g (k *2+j))=(pC x)[j]?:=λj C=>(h.cellAt (k *2+j) Yv).ah (BN Ce l C);exact⟨by simpa [pC]using m 0 Yq,by simpa [pC]using m 1 Yq⟩
 have G:=Yw c;clear f c;go_enter func140,ntmps140;have M:=enters_of func141 Yr rfl;go_wp2
 go_loopw [9,10] (λi j wr=>∃c f:Nat,i=Zg c/\j=Zg f/\c<=f/\f<=d.length/\Hid ((∀j x,j<c->d[j]?=some x->less x.name n=true)/\(∀j x,f<=j->d[j]?=some x->less x.name n=false))/\Zz w wr) (λi j _=>(intOf j).toNat -(intOf i).toNat)
 case atStart=>exact⟨0,d.length,rfl,rfl,Az _,Zx,⟨λj x h=>Yv,λj x h l=>Dz (Zw l).1⟩,Ad⟩
 case round=>
  obtain⟨c,f,rfl,rfl,O,A,u,l⟩:=hrel;have B:=l.size;by_cases hlt:c<f
  .have t:(c+f)/2<d.length:=Yv
   have o:=Yw (Zv t);generalize d[(c+f)/2]=x at *
   obtain⟨r0,D⟩:=F wr l _ _ o;go_wp2_with fail;refine(Mm x n wr).aj ?_;rintro e L ⟨rfl,s⟩;have q:=l.ah (s.aj B);clear r0 D;by_cases m:less x.name n=true
   .have K:decide (Ex x.name n<0)=true:=D2 ((PS _ _).2 m)
    have r:=Yw m;clear m;generalize Ex x.name n=cv at *
    go_wp2;refine⟨⟨(c+f)/2+1,f,Yn,rfl,Yv,A,⟨?_,u.2⟩,q⟩,Ys⟩;intro j y C p;rcases Bz j ((c+f)/2)with h|h
    .have:=pairwise_iff_getElem.1 G j ((c+f)/2) Yv t h;obtain⟨_,rfl⟩:=Zw p;have⟨_,e⟩:=Zw o;rw[e]at this;exact BV this r
    .obtain rfl:j=(c+f)/2:=Yv
     rw[o.o]at p;cases p;exact r.o
   .have K:decide (Ex x.name n<0)=false:=by simpa using λe=>m ((PS _ _).1 e)
    have r:Hid (less x.name n=false):=by show _=_;simpa using m
    clear m;generalize Ex x.name n=cv at *
    go_wp2;refine⟨⟨c,(c+f)/2,rfl,Yn,Yv,Yv,⟨u.1,?_⟩,q⟩,Ys⟩;intro j y C p;rcases Bz ((c+f)/2) j with h|h
    .have I:=(Zw p).1;have:=pairwise_iff_getElem.1 G ((c+f)/2) j t I h;obtain⟨_,rfl⟩:=Zw p;have⟨_,e⟩:=Zw o;rw[e]at this;have H:=r.o;cases h':less d[j].name n with
     |false=>rfl
     |true=>rw[BV this h']at H;cases H
    .obtain rfl:j=(c+f)/2:=Yv
     rw[o.o]at p;cases p;exact r.o
  .obtain rfl:c=f:=Yv
   have E:Hid (DW d n c):=⟨A,u.1,u.2⟩;by_cases hn:c<d.length
   .have o:=Yw (Zv hn);generalize d[c]=x at *
    obtain⟨r0,D⟩:=F wr l _ _ o;have J:(c:Int)<d.length:=Yv
    go_wp2_with fail;refine(Mm x n wr).aj ?_;rintro e L ⟨rfl,s⟩;have q:=l.ah (s.aj B);clear r0 D;have m:Hid (decide (∃y,d[c]?=some y/\y.name=n)=(Ex x.name n==0)):=by
     show _=_;rw[o.o];by_cases h:x.name=n
     .rw[(JS x.name n).2 h];simp[h]
     .have D:¬Ex x.name n=0:=λe=>h ((JS x.name n).1 e);rw[show(Ex x.name n==0)=false by simpa using D];simp[h]
    generalize Ex x.name n=cv at *
    go_wp2
    go_ret2
    exact⟨c,by rw[m.o];first|rfl|simp[Act.put],E,q⟩
   .have m:Hid (decide (∃y,d[c]?=some y/\y.name=n)=false):=by show _=_;rw[getElem?_eq_none Yv];simp
    have J:¬((c:Int)<d.length):=Yv
    go_wp2
    go_ret2
    exact⟨c,by rw[m.o];first|rfl|simp[Act.put],E,l⟩
theorem JU{b:Nat}{n:Nat}{c:Zj}(h:w.ownsRow b e size v n c)(f:0<n):∃g a,v=Yz g n a:=by
 rcases h.2 with⟨_,i⟩|⟨g,a,d,rfl,_⟩
 .omega
 .exact⟨g,a,rfl⟩
theorem JT.at{f:Dv}(h:JT f n i)(m:∃x∈f,x.G=n)(c:f.Pairwise (λa b=>a.G<b.G)):∃x,f[i]?=some x/\x.G=n:=by
 obtain⟨x,q,p⟩:=m;have⟨j,g⟩:=A5 q;have l:=(Zw g).1;have k:i=j:=by
  rcases Nat.lt_trichotomy i j with d|d|d
  .have r:=h.hi i f[i] (Zx) (Zv Yv);have o:=pairwise_iff_getElem.1 c i j Yv l d;have⟨_,e⟩:=Zw g;rw[e]at o;omega
  .exact d
  .have:=h.lo j x d g;omega
 exact⟨x,k▸g,p⟩
theorem DW.at{f:Dy}{n:Zi}(h:DW f n i)(q:∃x∈f,x.name=n)(c:f.Pairwise (λa b=>less a.name b.name=true)):∃x,f[i]?=some x/\x.name=n:=by
 obtain⟨x,r,k⟩:=q;have⟨j,g⟩:=A5 r;have p:=(Zw g).1;have o:i=j:=by
  rcases Nat.lt_trichotomy i j with d|d|d
  .have l:=h.hi i f[i] (Zx) (Zv Yv);have m:=pairwise_iff_getElem.1 c i j Yv p d;have⟨_,e⟩:=Zw g;rw[e,k]at m;rw[m]at l;cases l
  .exact d
  .have:=h.lo j x d g;rw[k,By]at this;cases this
 exact⟨x,o▸g,k⟩
def Bu(ls:List Ld)(n:Int):List Ld:=ls.filter (fun x=> !decide (x.G=n))
def Bd(ps:List Pd)(n:Zi):List Pd:=ps.filter (fun x=> !decide (x.name=n))
theorem Hm{A:Type}{q:A->Bool}:∀{xs:List A} {i:Nat} {x:A},xs[i]?=some x->q x=false->(∀j y,xs[j]?=some y->j≠i->q y=true)->xs.filter q=xs.eraseIdx i
 |[],i,x,hx,_,_=>by simp at hx
 |y::ys,0,x,hx,hq,ho=>by
  simp only[getElem?_cons_zero,Option.some.injEq]at hx;subst hx;rw[filter_cons,hq,eraseIdx_cons_zero];simp only[Bool.false_eq_true,if_false];exact filter_eq_self.2 (λz b=>by
   have⟨j,a⟩:=A5 b;exact ho (j+1) z (D2 a) Yv)
 |y::ys,i+1,x,hx,hq,ho=>by have b:=ho 0 y Yu Yv;rw[filter_cons,b,eraseIdx_cons_succ];simp only[if_true];rw[Hm (i:=i) (x:=x) (D2 hx) hq (λj z a c=>ho (j+1) z (D2 a) Yv)]
theorem QT{d:Dv}(g:d[i]?=some x)(p:x.G=n)(c:d.Pairwise (λa b=>a.G<b.G)):Bu d n=d.eraseIdx i:=by
 refine Hm g (by simp[p]) (λj y m o=> ?_);have e:=(Zw g).1;have f:=(Zw m).1;have⟨_,k⟩:=Zw g;have⟨_,l⟩:=Zw m;rcases Nat.lt_or_gt_of_ne o with h|h
 .have:=pairwise_iff_getElem.1 c j i f e h;rw[k,l]at this;simp;omega
 .have:=pairwise_iff_getElem.1 c i j e f h;rw[k,l]at this;simp;omega
theorem PU{n:Zi}{x:Pd}(m:d[i]?=some x)(l:x.name=n)(c:d.Pairwise (λa b=>less a.name b.name=true)):Bd d n=d.eraseIdx i:=by
 refine Hm m (by simp[l]) (λj y f q=> ?_);have g:=(Zw m).1;have k:=(Zw f).1;have⟨_,o⟩:=Zw m;have⟨_,p⟩:=Zw f;have f:y.name≠n:=λe=>by
  rcases Nat.lt_or_gt_of_ne q with h|h
  .have:=pairwise_iff_getElem.1 c j i k g h;rw[o,p,e,l,By]at this;cases this
  .have:=pairwise_iff_getElem.1 c i j g k h;rw[o,p,e,l,By]at this;cases this
 simpa using f
theorem VS(j d m:Nat)(O P L:D4)(G v k c:Int)(E:Dj)(F:Dy)(f:Dv)(n:Int)(w:Zh)(h:DU w j d m O P L G v k c E F f)(T:f.length<=200)(l:f.Pairwise (λa b=>a.G<b.G))(p:∃x∈f,x.G=n):
 D8 94 #[.pointer (some ⟨d,0,none⟩),Zg n] w λe o=>e=C5 (.tuple #[])/\∃D,DU o j d m O P D G v k c E F (Bu f n)/\Tn (d::L.ownBlock.toList) w o:=by
 have z:0<f.length:=by obtain⟨x,S,_⟩:=p;exact length_pos_of_mem S
 have⟨g,o,M⟩:=JU h.I.dq z;subst M;have H:Hid _:=h;have s:Hid _:=l;have A:Hid _:=p;have I:Hid _:=Ii g o f n w j h.I.dq (by omega) l;obtain⟨Q,_⟩:=h.I.box 7 _ rfl;clear h l p;go_enter func94,ntmps94;go_wp2_with fail;refine I.Ai ?_;rintro e J ⟨i,rfl,C,t⟩;have⟨x,r,u⟩:=C.at A s;have l:decide (∃x,f[i]?=some x/\x.G=n)=true:=by simpa using ⟨x,r,u⟩
 have B:=(Zw r).1;have N:Hid _:=QT r u s;have q:=H.A t;have p:Hid _:=q;have K:Hid _:=t;have y:Hid _:=Mf g o i f J j q.I.dq (by omega) B;obtain⟨R,_⟩:=q.I.box 7 _ rfl;rw[l];clear l r u C q t H I A s Q;go_wp2_with fail;refine y.Ai ?_;rintro e s ⟨rfl,u,q⟩;have t:∀b,(C3 (some ⟨g,0,none⟩) (f.length -1) o).ownBlock=some b->b≠d:=λb r=>((Dp p.I.ap).2.2.2 b r).1
 have l:=Aa.same p.I.box (q.block d p.I.box.lt (λe=>t g rfl (A4 e).symm));obtain⟨H,I⟩:=l 7 _ rfl;have A:∃D,DU (s.setCell (Zd d 7) (C3 (some ⟨g,0,none⟩) (f.length -1) o)) j d m O P D G v k c E F (Bu f n)/\Tn (d::(C1 (some ⟨g,0,none⟩) f o).ownBlock.toList) w (s.setCell (Zd d 7) (C3 (some ⟨g,0,none⟩) (f.length -1) o)):=by
  have C:Tn (d::(C1 (some ⟨g,0,none⟩) f o).ownBlock.toList) J (s.setCell (Zd d 7) (C3 (some ⟨g,0,none⟩) (f.length -1) o)):=
   ((EJ q).aj (by intro b r;simp[ownBlock]at r |-;exact .inr r)).ah ((AP s d 7 _).aj (by simp))
  refine⟨_,p.iu C (l.set 7 _) ?_ (.inl rfl),(Tn.of K).ah C⟩;rw[N.o,length_eraseIdx,if_pos B];exact BH u t 7 _
 have D:Hid _:=A;clear A u q l R;go_wp2
 go_end0
 exact⟨rfl,D⟩
theorem JV(k d m:Nat)(O L:D4)(g o:Nat)(z t l j:Int)(v:Dj)(f:Dy)(y:Dv)(n:Zi)(w:Zh)(h:DU w k d m O (Yz g f.length o) L z t l j v f y)(A:f.length<=200)(c:f.Pairwise (λa b=>less a.name b.name=true)):
 D8 118 #[Yy d,C4 n] w λe p=>∃i:Nat,e=C5 (.tuple #[Zg i,.bool (decide (∃x,f[i]?=some x/\x.name=n))])/\DW f n i/\Zz w p:=by
 have u:=Yw (Jn g o f n w k h.I.cj Yv c);obtain⟨c6,_⟩:=h.I.box 6 _ rfl;clear h c;go_enter func118,ntmps118;go_wp2_with fail;refine u.Ai ?_;rintro e B ⟨i,rfl,s,r⟩;have⟨p,c⟩:∃p,decide (∃x,f[i]?=some x/\x.name=n)=p:=⟨_,rfl⟩;have q:=Yw c;rw[c];clear c;go_wp2
 go_ret2
 exact⟨i,by rw[q.o];rfl,s,r⟩
theorem Uz(k d m:Nat)(O P L:D4)(A s f c:Int)(y:Dj)(j:Dy)(z:Dv)(n:Zi)(w:Zh)(h:DU w k d m O P L A s f c y j z)(Q:j.length<=200)(l:j.Pairwise (λa b=>less a.name b.name=true))(p:∃x∈j,x.name=n):
 D8 93 #[.pointer (some ⟨d,0,none⟩),C4 n] w λe o=>e=C5 (.tuple #[])/\∃G,DU o k d m O G L A s f c y (Bd j n) z/\Tn (d::P.ownBlock.toList) w o:=by
 have C:0<j.length:=by obtain⟨x,R,_⟩:=p;exact length_pos_of_mem R
 have⟨g,o,M⟩:=JU h.I.cj C;subst M;have H:Hid _:=h;have t:Hid _:=l;have D:Hid _:=p;have I:Hid _:=JV k d m O L g o A s f c y j z n w h Q l;clear h l p;go_enter func93,ntmps93;go_wp2_with fail;refine I.Ai ?_;rintro e J ⟨i,rfl,F,u⟩;have⟨x,r,v⟩:=F.at D t;have l:decide (∃x,j[i]?=some x/\x.name=n)=true:=by simpa using ⟨x,r,v⟩
 have E:=(Zw r).1;have N:Hid _:=PU r v t;have q:=H.A u;have p:Hid _:=q;have K:Hid _:=u;have B:Hid _:=Oq g o i j J k q.I.cj (by omega) E;obtain⟨e6,_⟩:=q.I.box 6 _ rfl;rw[l];clear l r v F q u H I D t;go_wp2_with fail;refine B.Ai ?_;rintro e t ⟨rfl,v,q⟩;have u:∀b,(C3 (some ⟨g,0,none⟩) (j.length -1) o).ownBlock=some b->b≠d:=λb r=>((Dp p.I.ap).2.2.1 b r).1
 have l:=Aa.same p.I.box (q.block d p.I.box.lt (λe=>u g rfl (A4 e).symm));obtain⟨H,I⟩:=l 6 _ rfl;have D:∃G,DU (t.setCell (Zd d 6) (C3 (some ⟨g,0,none⟩) (j.length -1) o)) k d m O G L A s f c y (Bd j n) z/\Tn (d::(C1 (some ⟨g,0,none⟩) j o).ownBlock.toList) w (t.setCell (Zd d 6) (C3 (some ⟨g,0,none⟩) (j.length -1) o)):=by
  have F:Tn (d::(C1 (some ⟨g,0,none⟩) j o).ownBlock.toList) J (t.setCell (Zd d 6) (C3 (some ⟨g,0,none⟩) (j.length -1) o)):=
   ((EJ q).aj (by intro b r;simp[ownBlock]at r |-;exact .inr r)).ah ((AP t d 6 _).aj (by simp))
  refine⟨_,p.iw F (l.set 6 _) ?_ (.inl rfl),(Tn.of K).ah F⟩;rw[N.o,length_eraseIdx,if_pos E];exact BH v u 6 _
 have G:Hid _:=D;clear D v q l e6;go_wp2
 go_end0
 exact⟨rfl,G⟩
def AT(ls:List Ld)(n:Int):List Ld:=ls.filter (fun x=> !decide (x.S<=n))
theorem NY(x:Ld)(b d:Nat)(n:Int)(w:Zh)(f:w.cell? (Zd b 0)=some (Yy d))(g:w.cell? (Zd d 2)=some (Zg n)):
 D8 126 #[.agg #[Zg x.G,C4 x.sum,Zg x.S],Yy b] w λe a=>e=C5 (.bool (decide (x.S<=n)))/\Zz w a:=by
 have⟨W,c⟩:=D6 w #[Zg x.G,C4 x.sum,Zg x.S] 73;have a:=(AE c).1;have k:W.cell? (Zd (w.1.size) 2)=some (Zg x.S):=by rw[c];simp[go_sem]
 have i:=(a.cell (p:=⟨b,0,none⟩) (A6 w _ f)).ah f;have j:=(a.cell (p:=⟨d,2,none⟩) (A6 w _ g)).ah g;have l:b<W.1.size/\d<W.1.size:=⟨A6 W _ i,A6 W _ j⟩;have h:=Yw c;clear c f g;go_enter func126,ntmps126;go_upto_region 1 with fail;rw[<-h.o];clear h;have c:=Yw a;clear a;cases hbb:decide (x.S<=n)
 all_goals
  have a:=Yw hbb;go_region_with fail
  all_goals
   clear k i j;go_wp2;go_ret;exact⟨by rw[a.o];rfl,c.drew⟩
def YN(ls:List Ld)(n r:Int):Prop:=(r= -1/\∀x∈ls,n<x.S)\/∃(i:Nat) (x:Ld),r=i/\ls[i]?=some x/\x.S<=n/\∀j y,j<i->ls[j]?=some y->n<y.S
theorem Jo(a:Zk)(z b d:Nat)(n:Int)(f:Dv)(w:Zh)(l:AS w w.1.size a f)(Q:f.length<=1048576)(t:w.cell? (Zd b 0)=some (Yy d))(v:w.cell? (Zd d 2)=some (Zg n)):
 D8 146 #[C3 a f.length z,.func (.func 126) #[] #[Yy b]] w λe c=>∃r:Int,e=C5 (Zg r)/\YN f n r/\Zz w c:=by
 have B:=A6 w _ t;have D:=A6 w _ v;go_enter func146,ntmps146;go_wp2
 go_loopw [8] (λi wr=>∃k:Nat,k<=f.length/\i=Zg k/\Hid (∀j x,j<k->f[j]?=some x->n<x.S)/\Zz w wr) (λi _=>f.length -(intOf i).toNat)
 case atStart=>exact⟨0,Az _,rfl,(λj x h=>Yv),Ad⟩
 case round=>
  obtain⟨k,P,rfl,g,c⟩:=hrel;have F:=c.size;by_cases hlt:k<f.length
  .obtain⟨K,J,I,O,m⟩:=(l.A c).at hlt;subst I;have o:=Yw (Zv hlt);obtain⟨L,M,N⟩:=m k _ o;have C:=(c.cell (p:=⟨b,0,none⟩) B).ah t;have E:=(c.cell (p:=⟨d,2,none⟩) D).ah v;clear m l;generalize f[k]=x at *
   go_wp2_with fail;refine(NY x b d n wr C E).aj ?_;rintro e R ⟨rfl,A⟩;have m:=c.ah (A.aj F);by_cases h:x.S<=n
   .have l:decide (x.S<=n)=true:=D2 h
    have H:=Yw h;rw[l];clear h l;go_wp2;go_ret;exact⟨_,rfl,.inr ⟨k,x,rfl,o,H,g⟩,m⟩
   .have G:Hid (∀j y,j<k+1->f[j]?=some y->n<y.S):=by
     intro j y u q;rcases Bz j k with s|s
     .exact g j y s q
     .obtain rfl:j=k:=Yv
      rw[o.o]at q;cases q;exact Int.not_le.1 h
    have l:decide (x.S<=n)=false:=D2 h
    rw[l];clear h l;go_wp2;exact⟨⟨k+1,Yv,Yn,G,m⟩,Ys⟩
  .go_wp2;go_ret;refine⟨_,rfl,.inl ⟨rfl,λx l=> ?_⟩,c⟩;obtain⟨j,u,rfl⟩:=getElem_of_mem l;exact g j _ Yv (Zv u)
theorem SP(x:Kd)(a:Dj):Fz (x::a)=x.B.length+Fz a:=by simp[Fz]
structure VT (w:Zh) (base:Nat) (T:Value) (rs:Zj) (ks:List Kd):Prop where
 len:rs.length=ks.length
 ak:w.ownsRow base 68 4 T ks.length (Ab kC (ks.zip rs))
 B:∀(i:Nat) (k:Kd) (r:Value),ks[i]?=some k->rs[i]?=some r->w.ownsRow base 9 1 r k.B.length (k.B.map Value.string)
 nd:(T.ownBlock.toList++rs.filterMap Value.ownBlock).Nodup
theorem PV:∀{zs:Dy} {i:Nat},i<zs.length->∀y:Pd,((Ab pC zs).set (i *2) (C4 y.name)).set (i *2+1) (C4 y.sum)=Ab pC (zs.set i y)
 |[],i,h,_=>by simp at h
 |z::zs,0,h,y=>by simp[Ab,pC]
 |z::zs,i+1,h,y=>by
  have b:=PV (zs:=zs) (i:=i) (D2 h) y;have e:Ab pC (z::zs)=pC z++Ab pC zs:=by simp[Ab]
  have a:Ab pC ((z::zs).set (i+1) y)=pC z++Ab pC (zs.set i y):=by simp[Ab]
  rw[e,a,<-b,show(i+1) *2=(pC z).length+i *2 by rw[Ce];omega];rw[set_append_right _ _ Yv,Nat.add_sub_cancel_left,show(pC z).length+i *2+1=(pC z).length+(i *2+1) by omega,set_append_right _ _ Yv,Nat.add_sub_cancel_left]
theorem PW:∀{zs:Dv} {i:Nat},i<zs.length->∀y:Ld,(((Ab lC zs).set (i *3) (Zg y.G)).set (i *3+1) (C4 y.sum)).set (i *3+2) (Zg y.S)=Ab lC (zs.set i y)
 |[],i,h,_=>by simp at h
 |z::zs,0,h,y=>by simp[Ab,lC]
 |z::zs,i+1,h,y=>by
  have b:=PW (zs:=zs) (i:=i) (D2 h) y;have e:Ab lC (z::zs)=lC z++Ab lC zs:=by simp[Ab]
  have a:Ab lC ((z::zs).set (i+1) y)=lC z++Ab lC (zs.set i y):=by simp[Ab]
  rw[e,a,<-b,show(i+1) *3=(lC z).length+i *3 by rw[CR];omega];rw[set_append_right _ _ Yv,Nat.add_sub_cancel_left,show(lC z).length+i *3+1=(lC z).length+(i *3+1) by omega,set_append_right _ _ Yv,Nat.add_sub_cancel_left,show(lC z).length+i *3+2=(lC z).length+(i *3+2) by omega,set_append_right _ _ Yv,Nat.add_sub_cancel_left]
theorem UA(k:Nat):∀v∈(Builtin.zeroCells #[Ze,Zc,Ze] k).toList,v.oneCell'=true:=by
 intro v a;simp only[Builtin.zeroCells,Array.toList_map,mem_map]at a;obtain⟨i,_,rfl⟩:=a;have b:i%3=0\/i%3=1\/i%3=2:=Yv
 show(#[int .i64 0,Zc,Ze][i%3]!).oneCell'=true;rcases b with h|h|h<;>rw[h]<;>rfl
theorem Lu(w:Zh)(l:TypeId)(b o k c:Nat)(m:0<k)(h:∀j,j<k *3->(w.cell? (Zd b (o+j))).isSome=true)(i:∀j,j<k *3->w.frozen? ⟨b,o+j,none⟩=false):
 (Builtin.clear_ #[25] l #[C3 (some ⟨b,o,none⟩) k c]).run prog w=.ok (.tuple #[]) (w.setCells b o (Builtin.zeroCells #[Ze,Zc,Ze] k).toList):=by
 have d:(Builtin.zeroCells #[Ze,Zc,Ze] k).toList.length=k *3:=by rw[Array.length_toList,size_zeroCells];rfl
 have a:=run_storeCells_cells (P:=prog) b o (Builtin.zeroCells #[Ze,Zc,Ze] k).toList 0 w (by rw[d];simpa using h) (by rw[d];simpa using i) (UA k);simp only[Nat.add_zero]at a;have g:=NN;have f:(agg #[Ze,Zc,Ze]).cells= #[Ze,Zc,Ze]:=rfl;obtain⟨e,rfl⟩:∃e,k=e+1:=⟨k -1,Yv⟩;simp[Builtin.clear_,run_underlying underlying25,g,f,a]
theorem VU{a b n:Nat}(h:w.ownsRow a 73 3 (Yz g n b) n (Ab lC c))(j:i<c.length)(y:Ld):(((w.setCell (Zd g (i *3)) (Zg y.G)).setCell (Zd g (i *3+1)) (C4 y.sum)).setCell (Zd g (i *3+2)) (Zg y.S)).ownsRow a 73 3 (Yz g n b) n (Ab lC (c.set i y)):=by have e:=(h.stored (i *3) (Zg y.G)).1;have f:=(e.stored (i *3+1) (C4 y.sum)).1;have d:=(f.stored (i *3+2) (Zg y.S)).1;rw[PW j y]at d;exact d
structure FG (ls cur:List Ld) (n:Int) (i j:Nat):Prop where
 len:cur.length=ls.length
 kept:cur.take i=AT (ls.take j) n
 rest:cur.drop j=ls.drop j
 lt:i<j
 le:j<=ls.length
theorem FG.start(c:a[i]?=some x)(k:x.S<=n)(h:∀j y,j<i->a[j]?=some y->n<y.S):FG a a n i (i+1):=by
 have d:=(Zw c).1;have⟨_,e⟩:=Zw c;refine⟨rfl,?_,rfl,Yv,Yv⟩;unfold AT;rw[Zu d,filter_append,e];have g:(a.take i).filter (λx=> !decide (x.S<=n))=a.take i:=filter_eq_self.2 (λy f=>by
  have⟨j,b⟩:=A5 f;have f:=(Zw b).1;rw[Ct]at f;have:=h j y Yv (by rw[getElem?_take_of_lt Yv]at b;exact b);simp;omega)
 rw[g];simp[k]
theorem FG.at(h:FG b a n i j)(c:j<b.length):a[j]?=some b[j]:=by have:=congrArg (λl=>l[0]?) h.rest;simp only[getElem?_drop,Nat.add_zero]at this;rw[this,Zv c]
theorem FG.skip(h:FG a b n i j)(c:j<a.length)(d:a[j].S<=n):FG a b n i (j+1):=by
 refine⟨h.len,?_,?_,Dz h.lt,Yv⟩
 .rw[h.kept];unfold AT;rw[Zu c,filter_append];simp[d]
 .have:=congrArg (List.drop 1) h.rest;rw[drop_drop,drop_drop]at this;exact this
theorem FG.move(h:FG a b n i j)(e:j<a.length)(g:n<a[j].S):FG a (b.set i a[j]) n (i+1) (j+1):=by
 have f:=h.lt;have hlen:=h.len;have c:i<b.length:=Yv
 refine⟨by rw[length_set];exact hlen,?_,?_,Yv,Yv⟩
 .have d:¬a[j].S<=n:=Yv
  rw[Zu (by rw[length_set];exact c),take_set_of_le (Zx),h.kept,getElem_set_self];unfold AT;rw[Zu e,filter_append];simp[d]
 .have:=congrArg (List.drop 1) h.rest;rw[drop_drop,drop_drop]at this;rw[drop_set_of_lt Yv];exact this
theorem FG.done(h:FG a b n i a.length):b.take i=AT a n/\(AT a n).length=i:=by have c:=h.kept;rw[Zt (Zx)]at c;refine⟨c,?_⟩;rw[<-c,Ct];have:=h.lt;have:=h.len;omega
theorem MW(g m p b d:Nat)(n:Int)(a:Dv)(w:Zh)(c:w.ownsRow p 73 3 (Yz g a.length m) a.length (Ab lC a))(hl:a.length<=200)(s:w.cell? (Zd b 0)=some (Yy d))(t:w.cell? (Zd d 2)=some (Zg n))(f:b≠g)(q:d≠g):
 D8 125 #[Yz g a.length m,.func (.func 126) #[] #[Yy b]] w λe l=>e=C5 (Yz g (AT a n).length m)/\l.ownsRow p 73 3 (Yz g (AT a n).length m) (AT a n).length (Ab lC (AT a n))/\w.grownBy l (some g):=by
 have H:a.length<=m/\m<=maxLen:=by
  rcases c.2 with⟨e,_⟩|⟨g',S,l,e,hb,hg,Z,h2,h3,h4⟩
  .cases e
  .cases e;exact⟨Z,h2⟩
 obtain⟨zA,R⟩:=H;unfold maxLen at R;have z:=Yw (Jo (some ⟨g,0,none⟩) m b d n a w (AS.own c) Yv s t);have u:=Yw c;have U:Hid (∀X,w.grownBy X (some g)->X.cell? (Zd b 0)=some (Yy d)/\X.cell? (Zd d 2)=some (Zg n)):=λX A=>⟨A.cell s (λe=>f (A4 e)),A.cell t (λe=>q (A4 e))⟩;clear c s t f q;go_enter func125,ntmps125;go_wp2_with fail;refine z.Ai ?_
 rintro e N ⟨r,rfl,X,c⟩;have s:Hid (N.ownsRow p 73 3 (Yz g a.length m) a.length (Ab lC a)):=Ah u c;have q:Hid (w.grownBy N (some g)):=Ag _ c;clear c z u;rcases X with⟨rfl,c⟩|⟨i,x,rfl,f,u,t⟩
 .have V:Hid (AT a n=a):=filter_eq_self.2 (λy z=>by have:=c y z;simp;omega);clear c;go_wp2;go_ret;rw[V.o];exact⟨rfl,s,q⟩
 .have z:Hid (FG a a n i (i+1)):=FG.start f u t;have y:((i:Int)== -1)=false:=Yu
  have G:i<a.length:=(Zw f).1;clear f u t;go_wp2
  go_loopw [5,6] (λt u wr=>∃(c f:Nat) (l:Dv),t=Zg c/\u=Zg f/\c<f/\f<=a.length/\Hid (FG a l n c f/\wr.ownsRow p 73 3 (Yz g a.length m) a.length (Ab lC l)/\w.grownBy wr (some g))) (λ_ j _=>a.length -(intOf j).toNat)
  case atStart=>exact⟨i,i+1,a,rfl,Yn,Yv,Yv,z,s,q⟩
  case round=>
   clear z s q G;obtain⟨c,f,l,rfl,rfl,zB,zC,q⟩:=hrel;by_cases hlt:f<a.length
   .have K:Hid (l[f]?=some a[f]):=q.1.at hlt;have E:Hid (a[f].S<=n->FG a l n c (f+1)):=λh=>q.1.skip hlt h;have D:Hid (n<a[f].S->FG a (l.set c a[f]) n (c+1) (f+1)):=λh=>q.1.move hlt h;have I:l.length=a.length:=q.1.len;generalize a[f]=x at *
    have s:∀k,k<3->wr.cell? (Zd g (f *3+k))=(lC x)[k]?:=λk M=>(q.2.1.cellAt (f *3+k) Yv).ah (BN CR K M);have P:wr.cell? (Zd g (f *3))=some (Zg x.G):=by simpa [lC]using s 0 Yq
    have Q:wr.cell? (Zd g (f *3+1))=some (C4 x.sum):=by simpa [lC]using s 1 Yq
    have Y:wr.cell? (Zd g (f *3+2))=some (Zg x.S):=by simpa [lC]using s 2 Yq
    have⟨W,t⟩:=D6 wr #[Zg x.G,C4 x.sum,Zg x.S] 73;have C:=(AE t).1;have O:=(AE t).2.2;have L:Hid (Aa W _ _):=(AE t).2.2;have z:w.grownBy W (some g):=Aj q.2.2 (Ag _ C);have u:Hid (W.ownsRow p 73 3 (Yz g a.length m) a.length (Ab lC l)/\w.grownBy W (some g)):=⟨Ah q.2.1 C,z⟩;have⟨A,B⟩:=U W z;have J:=NY x b d n W A B;have F:=Yw t
    have T:(f:Int)<a.length:=Yv
    have h:wr.1.size<W.1.size:=O.lt;clear t s C O z A B q;go_upto_region 8 with fail;rw[<-F.o];clear F P Q Y;obtain⟨O,P,Q⟩:=Aa.c3 L 0 1 2;go_wp2_with fail;refine J.aj ?_;rintro e C ⟨rfl,t⟩;have s:Hid (C.ownsRow p 73 3 (Yz g a.length m) a.length (Ab lC l)/\w.grownBy C (some g)):=⟨Ah u.1 t,Aj u.2 (Ag _ t)⟩;have F:=Aa.A L t;clear O P Q t u J L;by_cases ht:x.S<=n
    .have B:decide (x.S<=n)=true:=D2 ht
     have J:Hid (FG a l n c (f+1)):=E ht;rw[B];clear B ht E D F;go_wp2;exact⟨⟨c,f+1,l,rfl,Yn,Yv,Yv,J,s.1,s.2⟩,Ys⟩
    .have B:decide (x.S<=n)=false:=D2 ht
     have J:Hid (FG a (l.set c x) n (c+1) (f+1)):=D (Int.not_le.1 ht);have G:c<l.length:=Yv
     have u:=VU s.1 G x;have z:∀o,C.frozen? ⟨g,o,none⟩=false:=λo=>s.1.frozenAt o;have A:∀k,k<3->∃v,C.cell? (Zd g (c *3+k))=some v:=λk M=>⟨_,(s.1.cellAt (c *3+k) Yv).ah (Zv (by rw[Bq CR];omega))⟩;have⟨v0,Y⟩:=A 0 Yq;have⟨v1,s1⟩:=A 1 Yq;have⟨v2,s2⟩:=A 2 Yq;rw[Nat.add_zero]at Y;have v:=z (c *3);have q1:=z (c *3+1);have q2:=z (c *3+2)
     have t:=Yw (Zn u (Aj s.2 (Aj (Aj (Av C g (c *3) (Zg x.G)) (Av _ g (c *3+1) (C4 x.sum))) (Av _ g (c *3+2) (Zg x.S)))));obtain⟨O,P,Q⟩:=Aa.c3 F 0 1 2;have L:(c:Int)<a.length:=Yv
     rw[B];clear B ht E D F u A z;go_wp2;exact⟨⟨c+1,f+1,l.set c x,Yn,Yn,Yv,Yv,J,t.1,t.2⟩,Ys⟩
   .obtain rfl:f=a.length:=Yv
    have⟨z,E⟩:=q.1.done;have I:l.length=a.length:=q.1.len;have M:Hid ((AT a n).length=c/\l.take c=AT a n):=⟨E,z⟩;have A:=q.2.1;have K:Hid (w.grownBy wr (some g)):=q.2.2;have hcut:wr.ownsRow p 73 3 (Yz g c m) c (Ab lC (AT a n)):=by rw[<-z];have D:=A;rw[<-I]at D;exact Lm CR D c Yv
    have u:∀j,j<(a.length -c) *3->(wr.cell? (Zd g (c *3+j))).isSome=true/\wr.frozen? ⟨g,c *3+j,none⟩=false:=λj B=>by refine⟨?_,A.frozenAt _⟩;rw[A.cellAt (c *3+j) Yv,Zv (by rw[Bq CR];omega)];rfl
    have F:=Lu wr 0 g (c *3) (a.length -c) (m -c) Yv (λj B=>(u j B).1) (λj B=>(u j B).2);have B:=Yw hcut;have j:c<=a.length:=Yv
    have k:¬m=c:=Yv
    have o:c<=m:=Yv
    clear z E A hcut u q;go_wp2;go_ret;rw[M.1];exact⟨rfl,He _ _ _ B (Zx),Aj K (Ci g _ _ _)⟩
theorem MX(a:Zk)(c b d:Nat)(n:Int)(w:Zh)(j:w.cell? (Zd b 0)=some (Yy d))(k:w.cell? (Zd d 2)=some (Zg n)):
 D8 125 #[C3 a 0 c,.func (.func 126) #[] #[Yy b]] w λe f=>e=C5 (C3 a 0 c)/\Zz w f:=by
 have h:=Yw (Jo a c b d n [] w (.inl rfl) Yu j k);go_enter func125,ntmps125;go_wp2_with fail;refine h.Ai ?_;rintro e m ⟨r,rfl,l,f⟩;rcases l with⟨rfl,_⟩|⟨i,x,_,g,_⟩
 .go_wp2;go_ret;exact⟨rfl,f⟩
 .simp at g
theorem QU(h b d:Nat)(L:D4)(n:Int)(f:Dv)(w:Zh)(l:w.ownsRow h 73 3 L f.length (Ab lC f))(t:f.length<=200)(j:w.cell? (Zd b 0)=some (Yy d))(k:w.cell? (Zd d 2)=some (Zg n))(o:L.ownBlock≠some b)(p:L.ownBlock≠some d):
 D8 125 #[L,.func (.func 126) #[] #[Yy b]] w λe i=>∃a c,e=C5 (C3 a (AT f n).length c)/\i.ownsRow h 73 3 (C3 a (AT f n).length c) (AT f n).length (Ab lC (AT f n))/\w.grownBy i L.ownBlock/\(C3 a (AT f n).length c).ownBlock=L.ownBlock:=by
 rcases l.2 with⟨rfl,u⟩|⟨g,m,v,rfl,_⟩
 .have:f=[]:=Bl u;subst this;refine(MX none 0 b d n w j k).aj ?_;rintro e i ⟨rfl,s⟩;exact⟨none,0,rfl,ownsRow_nil _ _ _ _,Ag _ s,rfl⟩
 .refine(MW g m h b d n f w l t j k (λe=>o (by rw[e];rfl)) (λe=>p (by rw[e];rfl))).aj ?_;rintro e i ⟨rfl,q,r⟩;exact⟨_,_,rfl,q,r,rfl⟩
theorem VV(o d m:Nat)(O P L:D4)(q j l i:Int)(A:List Kd)(B:List Pd)(k:List Ld)(f:Int)(w:Zh)(h:DU w o d m O P L q j l i A B k)(hl:k.length<=200)(S:0<=j)(T:0<=f)(hs:j+f<=1000000000):
 D8 95 #[.pointer (some ⟨d,0,none⟩),.int .i64 f] w λe s=>e=.returned (.tuple #[])/\∃H,DU s o d m O P H q (j+f) l i A B (AT k (j+f))/\Tn (d::L.ownBlock.toList) w s:=by
 have⟨p,n,R⟩:=Aq h.I.dq;subst R;have zA:=h.I.box.lt;have⟨W,y⟩:=D6 w #[.pointer (some ⟨d,0,none⟩)] 62;have I:=(AE y).1;have D:=(AE y).2.2;have r:=h.A I;have⟨X,z⟩:=Ae (W.setCell ⟨d,2,none⟩ (.int .i64 (j+f)));have C:Tn [d] W X:=by rw[z];exact AP _ _ _ _
 have x:Aa X d [.int .i64 q,.map (some m),.int .i64 (j+f),.int .i64 l,.int .i64 i,O,P,.slice p k.length n]:=by rw[z];exact r.I.box.set 2 _
 have K:Aa X w.1.size [.pointer (some ⟨d,0,none⟩)]:=Aa.same D (C.block _ D.lt Yt);have v:∀g,(slice p k.length n).ownBlock=some g->g≠d:=λg t=>((Dp h.I.ap).2.2.2 g t).1;have G:X.ownsRow o 73 3 (.slice p k.length n) k.length (Ab lC k):=As r.I.dq (λg t=>C.block g (Ac r.I.dq t).2 (by simp;exact v g t))
 have E:(slice p k.length n).ownBlock≠some w.1.size:=λe=>Dz (Ac h.I.dq e).2
 have F:(slice p k.length n).ownBlock≠some d:=λe=>v d e rfl
 have V:Hid (∀Y,Zz X Y->D8 125 #[.slice p k.length n,.func (.func 126) #[] #[.pointer (some ⟨w.1.size,0,none⟩)]] Y λe s=>∃a c,e=.returned (.slice a (AT k (j+f)).length c)/\s.ownsRow o 73 3 (.slice a (AT k (j+f)).length c) (AT k (j+f)).length (Ab lC (AT k (j+f)))/\Y.grownBy s (slice p k.length n).ownBlock/\(slice a (AT k (j+f)).length c).ownBlock=(slice p k.length n).ownBlock):=λY s=>
  QU o w.1.size d _ (j+f) k Y (Ah G s) hl ((Aa.A K s) 0 _ rfl).1 ((x.A s) 2 _ rfl).1 E F
 have U:Hid (DU W o d m O P (.slice p k.length n) q j l i A B k):=r;have N:Hid (Zz w W):=I;have Q:Hid (Tn [d] W X):=C;have t:Hid (Aa X d [.int .i64 q,.map (some m),.int .i64 (j+f),.int .i64 l,.int .i64 i,O,P,.slice p k.length n]):=x;have u:Hid (Aa X w.1.size [.pointer (some ⟨d,0,none⟩)]):=K;have s:Hid _:=y;have M:Hid _:=z;obtain⟨J,_⟩:=D 0 _ rfl;obtain⟨Z,a⟩:=r.I.box 2 _ rfl
 have g:IntKind.i64.wrap (j+f)=j+f:=Hj S Yv T Yv;have c:¬(1000000000<j+f):=Yv
 clear h I D r z y C x K G;go_enter func95,ntmps95;go_upto_region 1 with fail;rw[<-s.o];clear s;go_upto_region 4 with fail;rw[<-M.o];clear M J Z a;have K:Below X.1.size X X.drew:=Ad.drew;obtain⟨J,_⟩:=u 0 _ rfl;obtain⟨Z,_⟩:=t 7 _ rfl
 go_region_with (go_at_call 125;refine Calls.mono (V X.drew K) ?_;rintro e s ⟨G,I,rfl,y,r,z⟩;have x:Aa s d [.int .i64 q,.map (some m),.int .i64 (j+f),.int .i64 l,.int .i64 i,O,P,.slice p k.length n]:=Aa.same t (r.block d t.lt (λe=>F e.symm));have C:Aa s w.1.size [.pointer (some ⟨d,0,none⟩)]:=Aa.same u (r.block w.1.size u.lt (λe=>E e.symm));obtain⟨g7,k7⟩:=x 7 _ rfl;obtain⟨y0,_⟩:=C 0 _ rfl)
 all_goals
  have M:∃H,DU (s.setCell ⟨d,7,none⟩ (.slice G (AT k (j+f)).length I)) o d m O P H q (j+f) l i A B (AT k (j+f))/\Tn (d::(slice p k.length n).ownBlock.toList) w (s.setCell ⟨d,7,none⟩ (.slice G (AT k (j+f)).length I)):=by
   have H:Tn (d::(slice p k.length n).ownBlock.toList) W (s.setCell ⟨d,7,none⟩ (.slice G (AT k (j+f)).length I)):=
    ((Q.aj Yu).ah ((Tn.of K).ah ((EJ r).aj (λb D=>mem_cons_of_mem _ D)))).ah ((AP s d 7 _).aj Yu)
   exact⟨_,U.iu H (x.set 7 _) (BH y (λb D=>v b (z▸D)) 7 _) (.inl z),(Tn.of N).ah H⟩
  have D:Hid _:=M;clear M y r x C J Z;go_wp2
  go_end0
  exact⟨rfl,D⟩
theorem Ky(g d m:Nat)(O P L:D4)(l u b a:Int)(c:Dj)(A:Dy)(z:Dv)(s:Zi)(w:Zh)(j:Dr w g d m O P L l u b a c A z)(r:∀k∈c,(k.sum.size:Int)=l)(t:¬Am c s):
 D8 116 #[Yy d,C4 s] w λe h=>e=.panicked [{v:=Cl 2 ⟨#[]⟩ ⟨#[]⟩,recovered:=false}]/\Zz w h:=by
 obtain⟨n,f,D,p,o⟩:=j.map;have⟨q,i,h⟩:=Fm l m n f c w w.1.size s w p o.holds r;have y:q=false:=by
  cases q with
  |false=>rfl
  |true=>exact absurd (i.1 rfl) t
 subst y;obtain⟨B,C⟩:=Aa.c2 j.box 0 1;have x:=Yw (h w Ad);clear j p o i h;go_enter func116,ntmps116;go_wp2_with fail;refine x.Ai ?_;rintro e i ⟨rfl,h⟩;go_wp2;exact⟨rfl,rfl,h⟩
theorem PX(c d m:Nat)(O P L:D4)(n l b a:Int)(g:Dj)(p:Dy)(o:Dv)(s:Zi)(f:Int)(w:Zh)(h:DU w c d m O P L n l b a g p o)(i:∀k∈g,(k.sum.size:Int)=n)(j:¬Am g s):
 D8 91 #[Yy d,C4 s,Zg f] w λe q=>e=.panicked [{v:=Cl 2 ⟨#[]⟩ ⟨#[]⟩,recovered:=false}]/\Zz w q:=by
 have HN:=Yw (Ky c d m O P L n l b a g p o s w h.I i j);clear h i j;go_enter func91,ntmps91;go_wp2_with fail;refine HN.Ai ?_;rintro e j ⟨rfl,i⟩;go_wp2;exact⟨rfl,rfl,i⟩
theorem NZ(i d m:Nat)(O P L:D4)(q p a c:Int)(o:Dj)(r:Dy)(j:Dv)(s:Zi)(l:Int)(w:Zh)(h:DU w i d m O P L q p a c o r j)(f:∀k∈o,(k.sum.size:Int)=q)(g:Am o s)(b:j.length=200\/a=1000000000):
 D8 91 #[Yy d,C4 s,Zg l] w λe n=>e=.panicked [{v:=Cl 4 ⟨#[]⟩ ⟨#[]⟩,recovered:=false}]/\Zz w n:=by
 have HN:=Yw (EI i d m O P L q p a c o r j s w h.I f g);have⟨C,B,t⟩:=Aq h.I.dq;subst t;have n:=Yw h;clear h f g;by_cases h1:j.length=200
 .have u:((j.length:Int)==200)=true:=Yt
  clear b h1;go_enter func91,ntmps91;go_wp2_with fail;refine HN.Ai ?_;rintro e z ⟨rfl,g⟩;have f:=n.A g;obtain⟨x,y⟩:=Aa.c2 f.I.box 3 7;clear f n HN;go_wp2;exact⟨rfl,rfl,g⟩
 .have u:((j.length:Int)==200)=false:=Yt
  have A:(a==1000000000)=true:=by
   rcases b with h|h
   .exact absurd h h1
   .rw[h];rfl
  clear b h1;go_enter func91,ntmps91;go_wp2_with fail;refine HN.Ai ?_;rintro e z ⟨rfl,g⟩;have f:=n.A g;obtain⟨x,y⟩:=Aa.c2 f.I.box 3 7;clear f n HN;go_wp2;exact⟨rfl,rfl,g⟩
theorem UB(i d m:Nat)(O P L:D4)(x c f b:Int)(s:Dj)(u:Dy)(t:Dv)(a:Int)(w:Zh)(h:DU w i d m O P L x c f b s u t)(o:0<=c)(p:c<=1000000000)(q:0<=a)(r:a<=1000000000)(A:1000000000<c+a):
 D8 95 #[Yy d,Zg a] w λe g=>e=.panicked [{v:=Cl 4 ⟨#[]⟩ ⟨#[]⟩,recovered:=false}]/\Zz w g:=by
 have⟨W,g⟩:=D6 w #[Yy d] 62;have k:=(AE g).1;have n:=(AE g).2.2;have l:=h.A k;have j:=Yw g;have y:=Hj o p q r;obtain⟨B,_⟩:=n 0 _ rfl;obtain⟨z,_⟩:=l.I.box 2 _ rfl;clear h l g n;go_enter func95,ntmps95;go_upto_region 1 with fail;rw[<-j.o];clear j;go_wp2;exact⟨rfl,rfl,k⟩
theorem Mn(a:Zk)(b:Nat)(n:Int)(w:Zh):
 D8 121 #[C3 a 0 b,Zg n,.func (.func 122) #[] #[]] w λe c=>e=C5 (.tuple #[Ze,.bool false])/\Zz w c:=by
 go_enter func121,ntmps121;go_wp2
 go_loopw [9,10] (λi j wr=>i=Zg 0/\j=Zg 0/\wr=w) (λ_ _ _=>0)
 case atStart=>exact⟨rfl,rfl,rfl⟩
 case round=>
  obtain⟨rfl,rfl,rfl⟩:=hrel;go_wp2
  go_ret2
  exact⟨by first|rfl|simp[Act.put],Ad⟩
theorem Ot(a:Zk)(b:Nat)(n:Zi)(w:Zh):
 D8 140 #[C3 a 0 b,C4 n,.func (.func 141) #[] #[]] w λe c=>e=C5 (.tuple #[Ze,.bool false])/\Zz w c:=by
 go_enter func140,ntmps140;go_wp2
 go_loopw [9,10] (λi j wr=>i=Zg 0/\j=Zg 0/\wr=w) (λ_ _ _=>0)
 case atStart=>exact⟨rfl,rfl,rfl⟩
 case round=>
  obtain⟨rfl,rfl,rfl⟩:=hrel;go_wp2
  go_ret2
  exact⟨by first|rfl|simp[Act.put],Ad⟩
theorem YO(d:Nat)(L:D4)(c:Dv)(n:Int)(w:Zh)(k:w.ownsRow d 73 3 L c.length (Ab lC c))(p:c.length<=600)(f:c.Pairwise (λa b=>a.G<b.G)):
 D8 121 #[L,Zg n,.func (.func 122) #[] #[]] w λe l=>∃i:Nat,e=C5 (.tuple #[Zg i,.bool (decide (∃x,c[i]?=some x/\x.G=n))])/\JT c n i/\Zz w l:=by
 rcases k.2 with⟨rfl,r⟩|⟨g,m,s,rfl,_⟩
 .have:c=[]:=Bl r;subst this;refine(Mn none 0 n w).aj ?_;rintro e l ⟨rfl,o⟩;exact⟨0,Yu,⟨Zx,λj x h=>Yv,λj x _ q=>by simp at q⟩,o⟩
 .exact Ii g m c n w d k p f
theorem YP(d:Nat)(P:D4)(c:Dy)(n:Zi)(w:Zh)(k:w.ownsRow d 71 2 P c.length (Ab pC c))(p:c.length<=600)(f:c.Pairwise (λa b=>less a.name b.name=true)):
 D8 140 #[P,C4 n,.func (.func 141) #[] #[]] w λe l=>∃i:Nat,e=C5 (.tuple #[Zg i,.bool (decide (∃x,c[i]?=some x/\x.name=n))])/\DW c n i/\Zz w l:=by
 rcases k.2 with⟨rfl,r⟩|⟨g,m,s,rfl,_⟩
 .have:c=[]:=Bl r;subst this;refine(Ot none 0 n w).aj ?_;rintro e l ⟨rfl,o⟩;exact⟨0,Yu,⟨Zx,λj x h=>Yv,λj x _ q=>by simp at q⟩,o⟩
 .exact Jn g m c n w d k p f
theorem YQ(g d m:Nat)(O P L:D4)(A r k f:Int)(y:Dj)(z:Dy)(j:Dv)(n:Int)(w:Zh)(h:DU w g d m O P L A r k f y z j)(C:j.length<=200)(c:j.Pairwise (λa b=>a.G<b.G))(o:¬∃x∈j,x.G=n):
 D8 94 #[Yy d,Zg n] w λe l=>e=.panicked [{v:=Cl 5 ⟨#[]⟩ ⟨#[]⟩,recovered:=false}]/\Zz w l:=by
 have p:=Yw (YO g L j n w h.I.dq Yv c);have⟨D,B,q⟩:=Aq h.I.dq;subst q;have l:=Yw o;obtain⟨s,_⟩:=h.I.box 7 _ rfl;clear h c o;go_enter func94,ntmps94;go_wp2_with fail;refine p.Ai ?_;rintro e E ⟨i,rfl,_,o⟩;have c:decide (∃x,j[i]?=some x/\x.G=n)=false:=by rw[decide_eq_false_iff_not];rintro⟨x,u,t⟩;exact l ⟨x,Zs u,t⟩
 rw[c];clear c p l s;go_wp2;exact⟨rfl,rfl,o⟩
theorem JW(j d m:Nat)(O P L:D4)(y s k f:Int)(u:Dj)(g:Dy)(v:Dv)(n:Zi)(w:Zh)(h:DU w j d m O P L y s k f u g v)(A:g.length<=200)(c:g.Pairwise (λa b=>less a.name b.name=true)):
 D8 118 #[Yy d,C4 n] w λe l=>∃i:Nat,e=C5 (.tuple #[Zg i,.bool (decide (∃x,g[i]?=some x/\x.name=n))])/\DW g n i/\Zz w l:=by
 have t:=Yw (YP j P g n w h.I.cj Yv c);have⟨B,z,p⟩:=Aq h.I.cj;subst p;obtain⟨c6,_⟩:=h.I.box 6 _ rfl;clear h c;go_enter func118,ntmps118;go_wp2_with fail;refine t.Ai ?_;rintro e C ⟨i,rfl,r,q⟩;have⟨l,c⟩:∃l,decide (∃x,g[i]?=some x/\x.name=n)=l:=⟨_,rfl⟩;have o:=Yw c;rw[c];clear c;go_wp2
 go_ret2
 exact⟨i,by rw[o.o];rfl,r,q⟩
theorem VW(j d m:Nat)(O P L:D4)(t p f c:Int)(r:Dj)(k:Dy)(s:Dv)(n:Zi)(w:Zh)(h:DU w j d m O P L t p f c r k s)(u:k.length<=200)(g:k.Pairwise (λa b=>less a.name b.name=true))(o:¬∃x∈k,x.name=n):
 D8 93 #[Yy d,C4 n] w λe l=>e=.panicked [{v:=Cl 5 ⟨#[]⟩ ⟨#[]⟩,recovered:=false}]/\Zz w l:=by
 have q:=Yw (JW j d m O P L t p f c r k s n w h u g);have l:=Yw o;clear h g o;go_enter func93,ntmps93;go_wp2_with fail;refine q.Ai ?_;rintro e A ⟨i,rfl,_,o⟩;have g:decide (∃x,k[i]?=some x/\x.name=n)=false:=by rw[decide_eq_false_iff_not];rintro⟨x,z,y⟩;exact l ⟨x,Zs z,y⟩
 rw[g];clear g q l;go_wp2;exact⟨rfl,rfl,o⟩
theorem Cz{b:Nat}{n:Nat}{f:Zj}(h:w.ownsRow b e size v n f)(c:v.ownBlock=some g):∃a,w.1[g]?=some (.cells a e):=by
 rcases h.2 with⟨rfl,_⟩|⟨j,i,a,rfl,_,d,_⟩
 .cases c
 .cases c;exact⟨a,d⟩
theorem DU.dz{k d m:Nat}{O:D4}{v p i g:Int}{s:Dj}{u:Dy}{t:Dv}(h:DU w k d m O P L v p i g s u t){R:Nat}{l:Array Value}(j:w.1[R]?=some (.cells l 36))(r:R≠d):R∉vB d m O P L/\NS w R:=by
 refine⟨λa=> ?_,λl b e=>by rw[j]at e;cases e⟩;unfold vB at a;simp only[Bv,A7,A8]at a;rcases a with a|a|a|a|a
 .exact r a
 .obtain⟨n,f,_,q,_⟩:=h.I.map;obtain⟨D,⟨x,clock,o,_⟩,_⟩:=q;rw[<-a,j]at o;cases o
 .obtain⟨c,b⟩:=Cz h.I.ord a;rw[j]at b;cases b
 .obtain⟨c,b⟩:=Cz h.I.cj a;rw[j]at b;cases b
 .obtain⟨c,b⟩:=Cz h.I.dq a;rw[j]at b;cases b
theorem Gj(f d m:Nat)(O P L:D4)(j n c a:Int)(i:Dj)(z:Dy)(t:Dv)(s x K:Zi)(o:Int)(H:Zk)(J I:Nat)(w:Zh)(h:DU w f d m O P L j n c a i z t)(k:Int)(y r:Value->Value)(u:Int)(p:Dy)(l:Dv)(B:List Nat)(D:∀b∈B,b<w.1.size)(R:(k=2/\∀W,DU W f d m O P L j n c a i z t->D8 92 #[Yy d,C4 x,C4 s] W (λe g=>e=C5 (.tuple #[])/\∃V,DU g f d m O (y V) (r V) j u c a i p l/\Tn B W g))\/(k=3/\∀W,DU W f d m O P L j n c a i z t->D8 93 #[Yy d,C4 x] W (λe g=>e=C5 (.tuple #[])/\∃V,DU g f d m O (y V) (r V) j u c a i p l/\Tn B W g))\/(k=5/\∀W,DU W f d m O P L j n c a i z t->D8 94 #[Yy d,Zg o] W (λe g=>e=C5 (.tuple #[])/\∃V,DU g f d m O (y V) (r V) j u c a i p l/\Tn B W g))\/(k=6/\∀W,DU W f d m O P L j n c a i z t->D8 95 #[Yy d,Zg o] W (λe g=>e=C5 (.tuple #[])/\∃V,DU g f d m O (y V) (r V) j u c a i p l/\Tn B W g))):
 D8 62 #[Yy d,.agg (Yd k s x o K H J I)] w λe g=>e=C5 (.agg z12.toArray)/\∃V,DU g f d m O (y V) (r V) j u c a i p l/\Tn B w g:=by
 have⟨W,g⟩:=Ae (((w.alloc (.cells (Yd k s x o K H J I) 32)).alloc (.cells Xz 36)).alloc (.cells Xz 36));have F:=(BI g).1;have E:=(BI g).2.1;have S:=(BI g).2.2.1;have U:Aa W (w.1.size+1) z12:=(BI g).2.2.2.1;have T:Aa W (w.1.size+2) z12:=(BI g).2.2.2.2;have A:W.1[w.1.size+1]?=some (.cells Xz 36):=by rw[g,Below.heap_alloc _ _ _ Yu];have:=heap_alloc_new (w.alloc (.cells (Yd k s x o K H J I) 32)) (.cells Xz 36);rw[Al]at this;exact this
 have M:=h.A F;have zA:=h.I.box.lt;have Q:=Yw g;have q:Hid (Aa W (w.1.size+1) z12/\Aa W (w.1.size+2) z12/\W.1[w.1.size+1]?=some (.cells Xz 36)/\Zz w W/\W.1.size=w.1.size+3/\f<=w.1.size):=⟨U,T,A,F,E,h.lo⟩;have C:=Yw D;obtain⟨X,Y,Z,e3⟩:=Aa.c4 S 0 1 2 3;have N:=Yw M;have G:=Yw R;clear g h M U T A F E S D R;rcases G.o with⟨rfl,g⟩|⟨rfl,g⟩|⟨rfl,g⟩|⟨rfl,g⟩
 all_goals
  have M:=Yw g;clear g G;go_enter func62,ntmps62;go_upto_region 2 with fail;rw[<-Q.o];clear Q;go_wp2_with fail;refine Calls.mono (M W N) ?_;rintro e Q ⟨rfl,V,D,g⟩;have zz:=q.2.2.2.2.1;have G:=Aa.same q.1 (g.block _ Yv (λh=>Dz (C _ h)));have F:=Aa.same q.2.1 (g.block _ Yv (λh=>Dz (C _ h)))
  have E:=(g.block _ Yv (λh=>Dz (C _ h))).ah q.2.2.1;have A:=Yw (Zn D (Zn g (D.dz E Yv)));have⟨⟨T,q0⟩,⟨U,q1⟩,⟨y2,q2⟩,⟨y3,q3⟩,⟨y4,q4⟩,⟨y5,q5⟩,⟨y6,q6⟩,⟨y7,q7⟩,⟨y8,q8⟩,⟨y9,q9⟩,⟨R,zB⟩,S,zC⟩:=Bf G;have⟨⟨v0,_⟩,⟨v1,_⟩,⟨v2,_⟩,⟨v3,_⟩,⟨v4,_⟩,⟨v5,_⟩,⟨v6,_⟩,⟨v7,_⟩,⟨v8,_⟩,⟨v9,_⟩,⟨zE,_⟩,zF,_⟩:=Bf F;clear D g G F E X Y Z e3 M zz N;go_wp2
  refine C0 (.agg z12.toArray) (by simp[results,results62,go_sem,T,U,y2,y3,y4,y5,y6,y7,y8,y9,R,S,z12]) ⟨rfl,V,A.1.K (Bs Q (w.1.size+1) _ _ _ _ _ _ _ _ _ _ _ _) (by intro b g;simp at g;subst g;exact⟨Dz q.2.2.2.2.2,A.2.2⟩),Tn.fresh ((Tn.of q.2.2.2.1).ah A.2.1) (Bs Q (w.1.size+1) _ _ _ _ _ _ _ _ _ _ _ _) Yv⟩
theorem MY(g d m:Nat)(O P L:D4)(p k f c:Int)(o:Dj)(n:Dy)(j:Dv)(s r y:Zi)(i:Int)(t:Zk)(v u:Nat)(w:Zh)(h:DU w g d m O P L p k f c o n j)(B:j.length<=200)(l:j.Pairwise (λa b=>a.G<b.G))(z:∃x∈j,x.G=i):
 D8 62 #[Yy d,.agg (Yd 5 s r i y t v u)] w λe q=>e=C5 (.agg z12.toArray)/\∃A,DU q g d m O P A p k f c o n (Bu j i)/\Tn (d::L.ownBlock.toList) w q:=
 Gj g d m O P L p k f c o n j s r y i t v u w h 5 (λ_=>P) (λV=>V) (k) (n) (Bu j i) (d::L.ownBlock.toList) (λb q=>h.I.dj b (by unfold vB;simp at q |-;rcases q with rfl|q<;>simp[*])) (.inr (.inr (.inl ⟨rfl,λW A=>VS g d m O P L p k f c o n j i W A B l z⟩)))
theorem MZ(i d m:Nat)(O P L:D4)(n f c a:Int)(l:Dj)(k:Dy)(j:Dv)(s p u:Zi)(g:Int)(q:Zk)(t r:Nat)(w:Zh)(h:DU w i d m O P L n f c a l k j)(z:j.length<=200)(v:0<=f)(x:0<=g)(A:f+g<=1000000000):
 D8 62 #[Yy d,.agg (Yd 6 s p g u q t r)] w λe o=>e=C5 (.agg z12.toArray)/\∃y,DU o i d m O P y n (f+g) c a l k (AT j (f+g))/\Tn (d::L.ownBlock.toList) w o:=
 Gj i d m O P L n f c a l k j s p u g q t r w h 6 (λ_=>P) (λV=>V) (f+g) (k) (AT j (f+g)) (d::L.ownBlock.toList) (λb o=>h.I.dj b (by unfold vB;simp at o |-;rcases o with rfl|o<;>simp[*])) (.inr (.inr (.inr ⟨rfl,λW y=>VV i d m O P L n f c a l k j g W y z v x A⟩)))
theorem Mo(g d m:Nat)(O P L:D4)(p j f c:Int)(o:Dj)(i:Dy)(n:Dv)(s k y:Zi)(q:Int)(t:Zk)(v u:Nat)(w:Zh)(h:DU w g d m O P L p j f c o i n)(B:i.length<=200)(l:i.Pairwise (λa b=>less a.name b.name=true))(z:∃x∈i,x.name=k):
 D8 62 #[Yy d,.agg (Yd 3 s k q y t v u)] w λe r=>e=C5 (.agg z12.toArray)/\∃A,DU r g d m O A L p j f c o (Bd i k) n/\Tn (d::P.ownBlock.toList) w r:=
 Gj g d m O P L p j f c o i n s k y q t v u w h 3 (λV=>V) (λ_=>L) (j) (Bd i k) (n) (d::P.ownBlock.toList) (λb r=>h.I.dj b (by unfold vB;simp at r |-;rcases r with rfl|r<;>simp[*])) (.inr (.inl ⟨rfl,λW A=>Uz g d m O P L p j f c o i n k W A B l z⟩))
theorem Na(d:Nat)(s j o:Zi)(g:Int)(l:Zk)(n m:Nat)(c:Int)(a b:Zi)(w:Zh)(h:∀X,Zz w X->D8 93 #[Yy d,C4 j] X λe f=>e=.panicked [{v:=Cl c a b,recovered:=false}]/\Zz X f):
 D8 62 #[Yy d,.agg (Yd 3 s j g o l n m)] w λe f=>e=.panicked [{v:=Cl c a b,recovered:=false}]/\Zz w f:=by
 have⟨W,f⟩:=Ae (((w.alloc (.cells (Yd 3 s j g o l n m) 32)).alloc (.cells Xz 36)).alloc (.cells Xz 36));have i:=(BI f).1;have p:=(BI f).2.2.1;have q:=Yw (h W i);have k:=Yw f;obtain⟨r,t,u,x⟩:=Aa.c4 p 0 1 2 3;clear f p h;go_enter func62,ntmps62;go_upto_region 2 with fail;rw[<-k.o];clear k;go_wp2_with fail;refine q.Ai ?_;rintro e k ⟨rfl,f⟩;exact⟨rfl,rfl,i.ah (f.aj i.size)⟩
theorem IH(d:Nat)(s k o:Zi)(f:Int)(l:Zk)(n m:Nat)(c:Int)(a b:Zi)(w:Zh)(h:∀X,Zz w X->D8 91 #[Yy d,C4 s,Zg f] X λe g=>e=.panicked [{v:=Cl c a b,recovered:=false}]/\Zz X g):
 D8 62 #[Yy d,.agg (Yd 4 s k f o l n m)] w λe g=>e=.panicked [{v:=Cl c a b,recovered:=false}]/\Zz w g:=by
 have⟨W,g⟩:=Ae (((w.alloc (.cells (Yd 4 s k f o l n m) 32)).alloc (.cells Xz 36)).alloc (.cells Xz 36));have i:=(BI g).1;have p:=(BI g).2.2.1;have q:=Yw (h W i);have j:=Yw g;obtain⟨r,t,u,x⟩:=Aa.c4 p 0 1 2 3;clear g p h;go_enter func62,ntmps62;go_upto_region 2 with fail;rw[<-j.o];clear j;go_wp2_with fail;refine q.Ai ?_;rintro e j ⟨rfl,g⟩;exact⟨rfl,rfl,i.ah (g.aj i.size)⟩
theorem Ou(d:Nat)(s k o:Zi)(f:Int)(l:Zk)(n m:Nat)(c:Int)(a b:Zi)(w:Zh)(h:∀X,Zz w X->D8 94 #[Yy d,Zg f] X λe g=>e=.panicked [{v:=Cl c a b,recovered:=false}]/\Zz X g):
 D8 62 #[Yy d,.agg (Yd 5 s k f o l n m)] w λe g=>e=.panicked [{v:=Cl c a b,recovered:=false}]/\Zz w g:=by
 have⟨W,g⟩:=Ae (((w.alloc (.cells (Yd 5 s k f o l n m) 32)).alloc (.cells Xz 36)).alloc (.cells Xz 36));have i:=(BI g).1;have p:=(BI g).2.2.1;have q:=Yw (h W i);have j:=Yw g;obtain⟨r,t,u,x⟩:=Aa.c4 p 0 1 2 3;clear g p h;go_enter func62,ntmps62;go_upto_region 2 with fail;rw[<-j.o];clear j;go_wp2_with fail;refine q.Ai ?_;rintro e j ⟨rfl,g⟩;exact⟨rfl,rfl,i.ah (g.aj i.size)⟩
theorem Ov(d:Nat)(s k o:Zi)(f:Int)(l:Zk)(n m:Nat)(c:Int)(a b:Zi)(w:Zh)(h:∀X,Zz w X->D8 95 #[Yy d,Zg f] X λe g=>e=.panicked [{v:=Cl c a b,recovered:=false}]/\Zz X g):
 D8 62 #[Yy d,.agg (Yd 6 s k f o l n m)] w λe g=>e=.panicked [{v:=Cl c a b,recovered:=false}]/\Zz w g:=by
 have⟨W,g⟩:=Ae (((w.alloc (.cells (Yd 6 s k f o l n m) 32)).alloc (.cells Xz 36)).alloc (.cells Xz 36));have i:=(BI g).1;have p:=(BI g).2.2.1;have q:=Yw (h W i);have j:=Yw g;obtain⟨r,t,u,x⟩:=Aa.c4 p 0 1 2 3;clear g p h;go_enter func62,ntmps62;go_upto_region 2 with fail;rw[<-j.o];clear j;go_wp2_with fail;refine q.Ai ?_;rintro e j ⟨rfl,g⟩;exact⟨rfl,rfl,i.ah (g.aj i.size)⟩
theorem JX(d:Nat)(s j o:Zi)(g:Int)(l:Zk)(n m:Nat)(c:Int)(a b:Zi)(w:Zh)(h:∀X,Zz w X->D8 92 #[Yy d,C4 j,C4 s] X λe f=>e=.panicked [{v:=Cl c a b,recovered:=false}]/\Zz X f):
 D8 62 #[Yy d,.agg (Yd 2 s j g o l n m)] w λe f=>e=.panicked [{v:=Cl c a b,recovered:=false}]/\Zz w f:=by
 have⟨W,f⟩:=Ae (((w.alloc (.cells (Yd 2 s j g o l n m) 32)).alloc (.cells Xz 36)).alloc (.cells Xz 36));have i:=(BI f).1;have p:=(BI f).2.2.1;have q:=Yw (h W i);have k:=Yw f;obtain⟨r,t,u,x⟩:=Aa.c4 p 0 1 2 3;clear f p h;go_enter func62,ntmps62;go_upto_region 2 with fail;rw[<-k.o];clear k;go_wp2_with fail;refine q.Ai ?_;rintro e k ⟨rfl,f⟩;exact⟨rfl,rfl,i.ah (f.aj i.size)⟩
theorem Mp(i d m:Nat)(O P L:D4)(C n a c:Int)(A:Dj)(H:Dy)(B:Dv)(s r y:Zi)(f:Int)(t:Zk)(x u:Nat)(w:Zh)(h:DU w i d m O P L C n a c A H B)(X:∀k∈A,(k.sum.size:Int)=C)(Z:Am A s)(hl:B.length<200)(R:0<=a)(S:a<1000000000)(T:0<=n)(U:n<=1000000000)(Y:0<=f)(g:f<=1000000000):
 D8 62 #[Yy d,.agg (Yd 4 s r f y t x u)] w λe j=>e=C5 (.agg #[Ze,Ze,Ze,Ze,Ze,Zb,Zb,Zb,Zc,Zg (a+1),Zc,Zc])/\∃l,DU j i d m O P l C n (a+1) c A H (B++[⟨a+1,s,n+f⟩])/\Tn (d::L.ownBlock.toList) w j:=by
 have⟨W,j⟩:=Ae (((w.alloc (.cells (Yd 4 s r f y t x u) 32)).alloc (.cells Xz 36)).alloc (.cells Xz 36));have G:=(BI j).1;have F:=(BI j).2.1;have M:=(BI j).2.2.1;have Q:Aa W (w.1.size+1) z12:=by have z:=Aa.new (w.alloc (.cells (Yd 4 s r f y t x u) 32)) z12 36;rw[Al]at z;rw[j];exact Aa.A (v:=Ze) z (Zy)
 have N:Aa W (w.1.size+2) z12:=by have z:=Aa.new ((w.alloc (.cells (Yd 4 s r f y t x u) 32)).alloc (.cells Xz 36)) z12 36;rw[Al,Al]at z;rw[j];exact z
 have D:W.1[w.1.size+1]?=some (.cells Xz 36):=by rw[j,Below.heap_alloc _ _ _ Yu];have:=heap_alloc_new (w.alloc (.cells (Yd 4 s r f y t x u) 32)) (.cells Xz 36);rw[Al]at this;exact this
 have q:W.1[w.1.size+2]?=some (.cells Xz 36):=by have:=heap_alloc_new ((w.alloc (.cells (Yd 4 s r f y t x u) 32)).alloc (.cells Xz 36)) (.cells Xz 36);rw[Al,Al]at this;rw[j];exact this
 have K:=h.A G;have zA:=h.I.box.lt;have E:∀b∈d::L.ownBlock.toList,b<w.1.size:=λb l=>h.I.dj b (by unfold vB;simp at l |-;rcases l with rfl|l<;>simp[*]);have I:=Yw (PH i d m O P L C n a c A H B s f W K X Z hl R S T U Y g);have J:=Yw j
 have o:Hid (Aa W (w.1.size+1) z12/\Aa W (w.1.size+2) z12/\W.1[w.1.size+1]?=some (.cells Xz 36)/\W.1[w.1.size+2]?=some (.cells Xz 36)/\Zz w W/\W.1.size=w.1.size+3/\i<=w.1.size):=⟨Q,N,D,q,G,F,h.lo⟩;have p:=Yw E;obtain⟨k,e1,e2,e3⟩:=Aa.c4 M 0 1 2 3;clear j h K Q N D q G F M E;go_enter func62,ntmps62;go_upto_region 2 with fail;rw[<-J.o];clear J;go_wp2_with fail
 refine I.Ai ?_;rintro e J ⟨rfl,V,q,g⟩;have zz:=o.2.2.2.2.2.1;have G:=Aa.same o.1 (g.block _ Yv (λh=>Dz (p _ h)));have F:=Aa.same o.2.1 (g.block _ Yv (λh=>Dz (p _ h)));have E:=(g.block _ Yv (λh=>Dz (p _ h))).ah o.2.2.1;have D:=(g.block _ Yv (λh=>Dz (p _ h))).ah o.2.2.2.1
 have j:=Yw (Zn q (Zn g (Zn (q.dz E Yv) (q.dz D Yv))));have⟨⟨N,q0⟩,⟨Q,q1⟩,⟨y2,q2⟩,⟨y3,q3⟩,⟨y4,q4⟩,⟨y5,q5⟩,⟨y6,q6⟩,⟨y7,q7⟩,⟨y8,q8⟩,⟨y9,q9⟩,⟨K,zE⟩,M,zF⟩:=Bf G;have⟨⟨v0,p0⟩,⟨v1,p1⟩,⟨v2,p2⟩,⟨v3,p3⟩,⟨v4,p4⟩,⟨v5,p5⟩,⟨v6,p6⟩,⟨v7,p7⟩,⟨v8,p8⟩,⟨v9,p9⟩,⟨zG,zB⟩,zH,zC⟩:=Bf F;clear q g G F E D k e1 e2 e3 I zz;go_wp2
 refine C0 (.agg #[Ze,Ze,Ze,Ze,Ze,Zb,Zb,Zb,Zc,Zg (a+1),Zc,Zc]) (by simp[results,results62,go_sem,N,Q,y2,y3,y4,y5,y6,y7,y8,y9,K,M]) ?_;have g:=(Tn.set (V:=[w.1.size+1,w.1.size+2]) J (w.1.size+2) 9 (Zg (a+1)) Yu).ah (Tn.aj (Bs (J.setCell (Zd (w.1.size+2) 9) (Zg (a+1))) (w.1.size+1) Ze Ze Ze Ze Ze Zb Zb Zb Zc (Zg (a+1)) Zc Zc) Yu)
 refine⟨rfl,V,j.1.K g (by intro b l;simp at l;have:=o.2.2.2.2.2.2;rcases l with rfl|rfl;exact⟨Yv,j.2.2.1⟩;exact⟨Yv,j.2.2.2⟩),?_⟩;have q:=(Tn.of (V:=d::L.ownBlock.toList) o.2.2.2.2.1).ah j.2.1;exact⟨g.os.ah q.os,g.tape.ah q.tape,g.output.ah q.output,Zm q.size g.size,λb l D=>(g.block b (Zr l q.size) Yt).ah (q.block b l D)⟩
def Bh(ps:List Pd)(n s:Zi):List Pd:=ps.filter (fun x=>less x.name n)++[⟨n,s⟩]++ps.filter (fun x=> !(less x.name n)&& !decide (x.name=n))
theorem DW.split{b:Dy}{n:Zi}(h:DW b n i):b.filter (λx=>less x.name n)=b.take i:=by
 have e:=(take_append_drop i b).symm
 conv=>lhs;rw[e]
 rw[filter_append,filter_eq_self.2 (λx c=> ?_),filter_eq_nil_iff.2 (λx c=> ?_),append_nil]
 .obtain⟨j,a⟩:=A5 c;rw[getElem?_drop]at a;rw[h.hi (i+j) x Yv a];simp
 .obtain⟨j,a⟩:=A5 c;have c:=(Zw a).1;rw[Ct]at c;rw[getElem?_take_of_lt Yv]at a;exact h.lo j x Yv a
theorem DW.io{b:Dy}{n:Zi}(h:DW b n i):b.filter (λx=> !(less x.name n)&& !decide (x.name=n))=(b.drop i).filter (λx=> !decide (x.name=n)):=by
 have e:=(take_append_drop i b).symm
 conv=>lhs;rw[e]
 rw[filter_append,filter_eq_nil_iff.2 (λx c=> ?_),nil_append]
 .refine filter_congr (λx c=> ?_);have⟨j,a⟩:=A5 c;rw[getElem?_drop]at a;rw[h.hi (i+j) x Yv a];simp
 .obtain⟨j,a⟩:=A5 c;have c:=(Zw a).1;rw[Ct]at c;rw[getElem?_take_of_lt Yv]at a;rw[h.lo j x Yv a];simp
theorem QV{a:Dy}{n:Zi}(h:DW a n i)(b:¬∃x∈a,x.name=n):Bh a n s=a.take i++[⟨n,s⟩]++a.drop i:=by unfold Bh;rw[h.split,h.io,filter_eq_self.2 (λx d=> ?_)];have c:x.name≠n:=λe=>b ⟨x,mem_of_mem_drop d,e⟩;simpa using c
theorem VX{n:Zi}{x:Pd}(h:DW d n i)(q:d[i]?=some x)(k:x.name=n)(c:d.Pairwise (λa b=>less a.name b.name=true)):Bh d n s=d.set i ⟨n,s⟩:=by
 have⟨f,e⟩:=Zw q;unfold Bh;rw[h.split,h.io,drop_eq_getElem_cons f,filter_cons,e,k];simp only[decide_true,Bool.not_true,Bool.false_eq_true,if_false];rw[filter_eq_self.2 (λy l=> ?_),set_eq_take_append_cons_drop,if_pos f,append_assoc]
 .rfl
 .obtain⟨j,g⟩:=A5 l;rw[getElem?_drop]at g;have⟨l,o⟩:=Zw g;have:=pairwise_iff_getElem.1 c i (i+1+j) f l Yv;rw[e,o,k]at this;have m:y.name≠n:=λp=>by rw[p,By]at this;cases this
  simpa using m
def Aar(ks:List Kd)(ps:List Pd)(ls:List Ld):Nat:=ks.length *3+Fz ks+ps.length *2+ls.length *3
theorem VT.same{j:Zh}{d:Zj}{g:Dj}(h:VT w base T d g)(f:∀b,b<w.1.size->b∈T.ownBlock.toList++d.filterMap ownBlock->j.1[b]?=w.1[b]?):VT j base T d g:=
 ⟨h.len,As h.ak (λb a=>f b (Ac h.ak a).2 (by simp[a])),λi k r e c=>As (h.B i k r e c) (λb a=>f b (Ac (h.B i k r e c) a).2 (mem_append_right _ (mem_filterMap.2 ⟨r,Zs c,a⟩))),h.nd⟩
theorem Ba.A{e:Zh}{b:Dj}(h:Ba w base T P L rs b d c)(a:Zz w e):Ba e base T P L rs b d c:=
 ⟨h.len,Ah h.ak a,λi k r f g=>Ah (h.B i k r f g) a,Ah h.pins a,Ah h.au a,h.nd⟩
theorem Ba.K{f:Zh}{a:Nat}{p:Zj}{l:Dj}{o:Dy}{m:Dv}(h:Ba w a T P L p l o m){V:List Nat}(s:Tn V w f)(q:∀b∈V,b<a):Ba f a T P L p l o m:=by have c:∀{e:TypeId} {size:Nat} {v:D4} {n:Nat} {xs:Zj},w.ownsRow a e size v n xs->f.ownsRow a e size v n xs:=λd=>As d (λg j=>s.block g (Ac d j).2 (λe=>by have:=q g e;have:=(Ac d j).1;omega));exact⟨h.len,c h.ak,λi k r d j=>c (h.B i k r d j),c h.pins,c h.au,h.nd⟩
theorem Ba.mono{base':Nat}{ks:Dj}{c:Dy}(h:Ba w base T P L rs ks c b)(a:base'<=base):Ba w base' T P L rs ks c b:=
 ⟨h.len,h.ak.aj a,λi k r d e=>(h.B i k r d e).aj a,h.pins.aj a,h.au.aj a,h.nd⟩
abbrev Ba.aj:=@Ba.mono
theorem Ba.lo{b:Nat}{e:Zj}{j:Dj}{l:Dy}{k:Dv}(h:Ba w b T P L e j l k):∀g∈BX T P L e,b<=g:=by
 intro g a;unfold BX at a;simp only[A7,A8,mem_filterMap]at a;rcases a with a|a|a|⟨r,f,a⟩
 .exact(Ac h.ak a).1
 .exact(Ac h.pins a).1
 .exact(Ac h.au a).1
 .obtain⟨i,c⟩:=A5 f;have d:=(Zw c).1;rw[h.len]at d;exact(Ac (h.B i _ r (Zv d) c) a).1
