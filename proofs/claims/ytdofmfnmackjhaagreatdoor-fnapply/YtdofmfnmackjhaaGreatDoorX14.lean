import Derived.Test.YtdofmfnmackjhaaGreatDoorX09
import Derived.WalkLawsBesides
import Derived.Defers
import Derived.Recover
set_option maxRecDepth 100000
set_option maxHeartbeats 16000000
namespace Go.Proofs.YtdofmfnmackjhaaGreatDoor
open ChangeShapes WideShapes ChangeAt RowKit _root_.Go.Proofs.Tryz List World Value
variable{w:Zh}{a c j l e:Int}{V U:List Nat}{b g d m B n i R:Nat}{O P L:Value}{k:Kd}{s:Zi}
section
attribute [local go_sem↓] Go.wp_at_zero Go.wp_at_succ
theorem Sy(p:Pd)(s:Zi)(b:Nat)(w:Zh)(d:w.cell? (Zd b 0)=some (C4 s)):
 D8 166 #[.agg #[C4 p.name,C4 p.sum],Yy b] w λe a=>e=C5 (.bool (decide (p.sum=s)))/\Zz w a:=by
 have i:b<w.1.size:=A6 w _ d;have g:¬w.1.size=b:=Yv
 have c:∀o,Zz w (w.alloc o):=λo=>Zy;by_cases h:p.sum=s
 .have f:(p.sum.toList==s.toList)=true:=by rw[h];simp
  have a:decide (p.sum=s)=true:=D2 h
  clear h;go_enter func166,ntmps166;go_wp2;go_ret;exact⟨by rw[a];rfl,c _⟩
 .have f:(p.sum.toList==s.toList)=false:=Br h;have a:decide (p.sum=s)=false:=D2 h
  clear h;go_enter func166,ntmps166;go_wp2;go_ret;exact⟨by rw[a];rfl,c _⟩
theorem PD(a:Zk)(u b:Nat)(d:Dy)(s:Zi)(w:Zh)(g:AU w w.1.size a d)(K:d.length<=1048576)(q:w.cell? (Zd b 0)=some (C4 s)):
 D8 176 #[C3 a d.length u,.func (.func 166) #[] #[Yy b]] w λe c=>∃r:Int,e=C5 (Zg r)/\(0<=r↔∃p∈d,p.sum=s)/\Zz w c:=by
 have z:=A6 w _ q;go_enter func176,ntmps176;go_wp2
 go_loopw [8] (λi wr=>∃k:Nat,k<=d.length/\i=Zg k/\Hid (∀j x,j<k->d[j]?=some x->¬x.sum=s)/\Zz w wr) (λi _=>d.length -(intOf i).toNat)
 case atStart=>exact⟨0,Az _,rfl,(λj x h=>Yv),Ad⟩
 case round=>
  obtain⟨k,J,rfl,f,c⟩:=hrel;have B:=c.size;by_cases hlt:k<d.length
  .obtain⟨F,E,D,I,l⟩:=(g.A c).at hlt;subst D;have m:=Yw (Zv hlt);obtain⟨G,H⟩:=l k _ m;have A:=(c.cell (p:=⟨b,0,none⟩) z).ah q;clear l g;generalize d[k]=x at *
   go_wp2_with fail;refine(Sy x s b wr A).aj ?_;rintro e L ⟨rfl,v⟩;have g:=c.ah (v.aj B);by_cases h:x.sum=s
   .have l:decide (x.sum=s)=true:=D2 h
    rw[l];go_wp2;go_ret;exact⟨_,rfl,⟨λ_=>⟨x,Zs m,h⟩,λ_=>Yv⟩,g⟩
   .have C:Hid (∀j y,j<k+1->d[j]?=some y->¬y.sum=s):=by
     intro j y t n;rcases Bz j k with o|o
     .exact f j y o n
     .obtain rfl:j=k:=Yv
      rw[m.o]at n;cases n;exact h
    have l:decide (x.sum=s)=false:=D2 h
    rw[l];clear h;go_wp2;exact⟨⟨k+1,Yv,Yn,C,g⟩,Ys⟩
  .go_wp2;go_ret;refine⟨_,rfl,⟨λh=>Yv,λ⟨p,hp,h⟩=> ?_⟩,c⟩;obtain⟨j,t,rfl⟩:=getElem_of_mem hp;exact absurd h (f j _ Yv (Zv t))
theorem Mb(a:Zk)(f b:Nat)(c:Dy)(s:Zi)(w:Zh)(d:AU w w.1.size a c)(l:c.length<=1048576)(k:w.cell? (Zd b 0)=some (C4 s)):
 D8 165 #[C3 a c.length f,.func (.func 166) #[] #[Yy b]] w λe i=>∃g,e=C5 (.bool g)/\(g=true↔∃p∈c,p.sum=s)/\Zz w i:=by
 go_enter func165,ntmps165;go_wp2_with fail;refine(PD a f b c s w d l k).aj ?_;rintro e m ⟨r,rfl,j,g⟩;have i:=Yw j;clear j;by_cases h:0<=r
 .have j:decide ((0:Int)<=r)=true:=D2 h
  go_wp2;go_ret;exact⟨true,rfl,⟨(λ_=>i.1 h),(λ_=>rfl)⟩,g⟩
 .have j:decide ((0:Int)<=r)=false:=D2 h
  go_wp2;go_ret;exact⟨false,rfl,⟨(λe=>by cases e),(λe=>absurd (i.2 e) Yv)⟩,g⟩
theorem PE(p:Ld)(s:Zi)(b:Nat)(w:Zh)(d:w.cell? (Zd b 0)=some (C4 s)):
 D8 168 #[.agg #[Zg p.G,C4 p.sum,Zg p.S],Yy b] w λe a=>e=C5 (.bool (decide (p.sum=s)))/\Zz w a:=by
 have i:b<w.1.size:=A6 w _ d;have g:¬w.1.size=b:=Yv
 have c:∀o,Zz w (w.alloc o):=λo=>Zy;by_cases h:p.sum=s
 .have f:(p.sum.toList==s.toList)=true:=by rw[h];simp
  have a:decide (p.sum=s)=true:=D2 h
  clear h;go_enter func168,ntmps168;go_wp2;go_ret;exact⟨by rw[a];rfl,c _⟩
 .have f:(p.sum.toList==s.toList)=false:=Br h;have a:decide (p.sum=s)=false:=D2 h
  clear h;go_enter func168,ntmps168;go_wp2;go_ret;exact⟨by rw[a];rfl,c _⟩
theorem MR(a:Zk)(u b:Nat)(d:Dv)(s:Zi)(w:Zh)(g:AS w w.1.size a d)(L:d.length<=1048576)(q:w.cell? (Zd b 0)=some (C4 s)):
 D8 146 #[C3 a d.length u,.func (.func 168) #[] #[Yy b]] w λe c=>∃r:Int,e=C5 (Zg r)/\(0<=r↔∃p∈d,p.sum=s)/\Zz w c:=by
 have z:=A6 w _ q;go_enter func146,ntmps146;go_wp2
 go_loopw [8] (λi wr=>∃k:Nat,k<=d.length/\i=Zg k/\Hid (∀j x,j<k->d[j]?=some x->¬x.sum=s)/\Zz w wr) (λi _=>d.length -(intOf i).toNat)
 case atStart=>exact⟨0,Az _,rfl,(λj x h=>Yv),Ad⟩
 case round=>
  obtain⟨k,K,rfl,f,c⟩:=hrel;have B:=c.size;by_cases hlt:k<d.length
  .obtain⟨F,E,D,J,l⟩:=(g.A c).at hlt;subst D;have m:=Yw (Zv hlt);obtain⟨G,H,I⟩:=l k _ m;have A:=(c.cell (p:=⟨b,0,none⟩) z).ah q;clear l g;generalize d[k]=x at *
   go_wp2_with fail;refine(PE x s b wr A).aj ?_;rintro e M ⟨rfl,v⟩;have g:=c.ah (v.aj B);by_cases h:x.sum=s
   .have l:decide (x.sum=s)=true:=D2 h
    rw[l];go_wp2;go_ret;exact⟨_,rfl,⟨λ_=>⟨x,Zs m,h⟩,λ_=>Yv⟩,g⟩
   .have C:Hid (∀j y,j<k+1->d[j]?=some y->¬y.sum=s):=by
     intro j y t n;rcases Bz j k with o|o
     .exact f j y o n
     .obtain rfl:j=k:=Yv
      rw[m.o]at n;cases n;exact h
    have l:decide (x.sum=s)=false:=D2 h
    rw[l];clear h;go_wp2;exact⟨⟨k+1,Yv,Yn,C,g⟩,Ys⟩
  .go_wp2;go_ret;refine⟨_,rfl,⟨λh=>Yv,λ⟨p,hp,h⟩=> ?_⟩,c⟩;obtain⟨j,t,rfl⟩:=getElem_of_mem hp;exact absurd h (f j _ Yv (Zv t))
theorem KF(a:Zk)(f b:Nat)(c:Dv)(s:Zi)(w:Zh)(d:AS w w.1.size a c)(l:c.length<=1048576)(k:w.cell? (Zd b 0)=some (C4 s)):
 D8 167 #[C3 a c.length f,.func (.func 168) #[] #[Yy b]] w λe i=>∃g,e=C5 (.bool g)/\(g=true↔∃p∈c,p.sum=s)/\Zz w i:=by
 go_enter func167,ntmps167;go_wp2_with fail;refine(MR a f b c s w d l k).aj ?_;rintro e m ⟨r,rfl,j,g⟩;have i:=Yw j;clear j;by_cases h:0<=r
 .have j:decide ((0:Int)<=r)=true:=D2 h
  go_wp2;go_ret;exact⟨true,rfl,⟨(λ_=>i.1 h),(λ_=>rfl)⟩,g⟩
 .have j:decide ((0:Int)<=r)=false:=D2 h
  go_wp2;go_ret;exact⟨false,rfl,⟨(λe=>by cases e),(λe=>absurd (i.2 e) Yv)⟩,g⟩
theorem Sz(n d m:Nat)(O P L:D4)(G x c a:Int)(C:Dj)(k:Dy)(j:Dv)(s:Zi)(w:Zh)(b:Dr w n d m O P L G x c a C k j)(K:k.length<=100)(J:j.length<=200):
 D8 147 #[Yy d,C4 s] w λe g=>∃f,e=C5 (.bool f)/\(f=true↔(∃p∈k,p.sum=s)\/∃l∈j,l.sum=s)/\Zz w g:=by
 have H:∀(fn:Fn) (first cap:Array Value) (w:Zh),(Instr.makeFunc fn first cap).run prog w=.ok (.func fn first cap) w:=λ_ _ _ _=>rfl;obtain⟨E,A,rfl⟩:=Aq b.cj;obtain⟨D,v,rfl⟩:=Aq b.dq;have I:=Yw b;have⟨W,i⟩:=D6 w #[C4 s] 9;have h:=(AE i).1;have g:W.cell? (Zd (w.1.size) 0)=some (C4 s):=by rw[i];simp
 have f:=b.A h;obtain⟨c6,t⟩:=Aa.c2 f.box 6 7;have o:=Yw f;have q:=Yw i;clear i b f;go_enter func147,ntmps147;go_upto_region 1 with fail;rw[<-q.o];clear q;go_wp2_with fail;refine(Mb E A _ k s W (AU.own o.cj) Yv g).aj ?_;rintro e F ⟨y,rfl,q,b⟩;have f:=Yw (Dr.A o b);obtain⟨B,_⟩:=f.box 7 _ rfl;have r:=(b.cell (p:=⟨w.1.size,0,none⟩) (A6 W _ g)).ah g
 have i:=Yw q;clear q c6 t g;go_wp2_with fail;refine(KF D v _ j s F (AS.own f.dq) Yv r).aj ?_;rintro e M ⟨z,rfl,t,u⟩;have q:=Yw t;have g:=(h.ah (b.aj h.size)).ah (u.aj (Zm h.size b.size));clear t B r;cases y
 .go_wp2;go_ret;exact⟨z,rfl,⟨(λe=> .inr (q.1 e)),(λe=>e.elim (λe=>by have:=i.2 e;cases this) q.2)⟩,g⟩
 .go_wp2;go_ret;exact⟨true,rfl,⟨(λ_=> .inl (i.1 trivial)),(λ_=>rfl)⟩,g⟩
theorem BS.holds{a:Nat}{b:Dj}{f:Lit->Option Value}(h:BS w a V c b f):Holds w w.1.size c b f:=by
 intro s j;rcases h s j with h|⟨u,k,l,d,e,g,i⟩
 .exact .inl h
 .exact .inr ⟨u,k,l,d,e,g,i.row⟩
theorem Dr.look{o x b:Int}{c:Dj}{C:Dy}{B:Dv}(h:Dr w g d m O P L o x b a c C B)(q:(c.map (·.sum)).Nodup)(t:∀k∈c,(k.sum.size:Int)=o)(i:k∈c):
 ∃e j,Af w w.1.size e k.B/\∀X,Zz w X->(Instr.lookup 79 (.map (some m)) (Ca k.sum) false).run prog X=.ok (CW k e j) X:=by
 have⟨n,f,D,l,y⟩:=h.map;rcases y _ (t k i)with⟨_,r⟩|⟨u,e,j,A,v,p,s⟩
 .exact absurd ⟨_,i,rfl⟩ r
 .obtain rfl:=FT q A i v;refine⟨e,j,s.row,λX z=> ?_⟩;have:=(l.ag z l.lt).look keyed underlying79 (IQ _) (CE u.sum);rw[p]at this;exact this
theorem VG(z d m o q:Nat)(O P L:D4)(I R l c:Int)(x:Dj)(V:Dy)(U:Dv)(s:Zi)(k:Kd)(w:Zh)(H:Dr w z d m O P L I R l c x V U)(K:(x.map (·.sum)).Nodup)(N:∀k∈x,(k.sum.size:Int)=I)(S:k∈x)(T:k.B.length<=1000)(n:k.B.Pairwise (λa b=>less a b=true))(A:w.cell? (Zd o 0)=some (Yy d))(B:w.cell? (Zd q 0)=some (C4 s)):
 D8 170 #[Ca k.sum,Yy o,Yy q] w λe f=>∃y,e=C5 (.bool y)/\(y=true↔s∈k.B)/\Zz w f:=by
 have⟨f,g,h,r⟩:=H.look K N S;have J:=A6 w _ A;have M:=A6 w _ B;have⟨W,t⟩:=D6 w (Yk (kB k.sum)) 75;have j:=(AE t).1;have D:Aa W w.1.size (Au k.sum):=by rw[t];exact Aa.new w (Au k.sum) 75
 have Q:w.1.size<W.1.size:=Aa.lt (v:=.int .u8 (kB k.sum 0)) D;unfold Ca Cy CW at r
 have C:Hid (∀X,Zz W X->X.cell? (Zd o 0)=some (Yy d)/\X.cell? (Zd q 0)=some (C4 s)/\X.cell? (Zd d 1)=some (.map (some m))/\(X.cell? (Zd (w.1.size) 0)=some (.int .u8 (kB k.sum 0))/\X.cell? (Zd (w.1.size) 1)=some (.int .u8 (kB k.sum 1))/\X.cell? (Zd (w.1.size) 2)=some (.int .u8 (kB k.sum 2))/\X.cell? (Zd (w.1.size) 3)=some (.int .u8 (kB k.sum 3))/\X.cell? (Zd (w.1.size) 4)=some (.int .u8 (kB k.sum 4))/\X.cell? (Zd (w.1.size) 5)=some (.int .u8 (kB k.sum 5))/\X.cell? (Zd (w.1.size) 6)=some (.int .u8 (kB k.sum 6))/\X.cell? (Zd (w.1.size) 7)=some (.int .u8 (kB k.sum 7)))/\(Instr.lookup 79 (.map (some m)) (.agg (Yk (kB k.sum))) false).run prog X=.ok (.agg #[C4 k.sum,Zg k.born,C4 k.J,C1 f k.B g]) X):=
  λX E=>by have u:=j.ah (E.aj j.size);exact⟨(u.cell (p:=⟨o,0,none⟩) J).ah A,(u.cell (p:=⟨q,0,none⟩) M).ah B,(Aa.A H.box u 1 _ rfl).1,ZX (E.block _ Q) D,r X u⟩
 have F:=Yw (QM f g k.B s W.drew (Af.aj (Af.A h j.drew) j.size) T n);have E:Below W.1.size W W.drew:=Ad.drew;have Y:∀X:Zh,(Instr.field 68 (.agg #[C4 k.sum,Zg k.born,C4 k.J,C1 f k.B g]) 2).run prog X=.ok (.agg #[C4 k.J,C1 f k.B g]) X:=λ_=>Yr
 have Z:∀X:Zh,(Instr.field 30 (.agg #[C4 k.J,C1 f k.B g]) 1).run prog X=.ok (C1 f k.B g) X:=λ_=>Yr
 have G:=Yw t;clear t D r h;unfold Ca Cy;go_enter func170,ntmps170;go_upto_region 1 with fail;rw[<-G.o];clear G
 go_region_held3 (λX=>X.cell? (Zd o 0)=some (Yy d)/\X.cell? (Zd q 0)=some (C4 s)/\X.cell? (Zd d 1)=some (.map (some m))/\(X.cell? (Zd (w.1.size) 0)=some (.int .u8 (kB k.sum 0))/\X.cell? (Zd (w.1.size) 1)=some (.int .u8 (kB k.sum 1))/\X.cell? (Zd (w.1.size) 2)=some (.int .u8 (kB k.sum 2))/\X.cell? (Zd (w.1.size) 3)=some (.int .u8 (kB k.sum 3))/\X.cell? (Zd (w.1.size) 4)=some (.int .u8 (kB k.sum 4))/\X.cell? (Zd (w.1.size) 5)=some (.int .u8 (kB k.sum 5))/\X.cell? (Zd (w.1.size) 6)=some (.int .u8 (kB k.sum 6))/\X.cell? (Zd (w.1.size) 7)=some (.int .u8 (kB k.sum 7)))/\(Instr.lookup 79 (.map (some m)) (.agg (Yk (kB k.sum))) false).run prog X=.ok (.agg #[C4 k.sum,Zg k.born,C4 k.J,C1 f k.B g]) X)
  (first|with_reducible exact C.o _ E|with_reducible exact C.o _ r)
  (first|(go_at_call 171;refine F.Ai ?_;rintro e G ⟨i,y,rfl,h,D⟩;have t:=Yw h;clear h;have r:Below W.1.size W G:=Dm D))
 all_goals
  clear C F E;go_wp2;go_ret;exact⟨y,rfl,t,j.ah (r.aj j.size)⟩
def JO(ks:List Kd):Prop:=∀k∈ks,k.B.length<=1000/\k.B.Pairwise (fun a b=>less a b=true)
theorem PF(o d m u z:Nat)(N:Zk)(G:Nat)(P L:D4)(I F l f:Int)(b:Dj)(O:Dy)(M:Dv)(s:Zi)(w:Zh)(a:Dr w o d m (C3 N b.length G) P L I F l f b O M)(Z:(b.map (·.sum)).Nodup)(zA:∀k∈b,(k.sum.size:Int)=I)(K:JO b)(hl:b.length<=600)(C:w.cell? (Zd u 0)=some (Yy d))(E:w.cell? (Zd z 0)=some (C4 s)):
 D8 177 #[C3 N b.length G,.func (.func 170) #[] #[Yy u,Yy z]] w λe c=>∃r:Int,e=C5 (Zg r)/\(0<=r↔∃k∈b,s∈k.B)/\Zz w c:=by
 have X:=A6 w _ C;have r:=A6 w _ E;have HD:=Yw a;clear a;go_enter func177,ntmps177;go_wp2
 go_loopw [8] (λi wr=>∃k:Nat,k<=b.length/\i=Zg k/\Hid (∀j x,j<k->b[j]?=some x->¬s∈x.B)/\Zz w wr) (λi _=>b.length -(intOf i).toNat)
 case atStart=>exact⟨0,Az _,rfl,(λj x h=>Yv),Ad⟩
 case round=>
  obtain⟨k,hk,rfl,q,c⟩:=hrel;have i:=c.size;by_cases hlt:k<b.length
  .have t:=Dr.A HD c;have n:=t.ord;obtain⟨og,oc,Y,_,zB⟩:=BF n (λe=>by injection e with _ h2 _;omega);cases Y;have J:=Yw (Zv hlt);have g:=getElem_mem hlt;have D:(b.map (·.sum))[k]?=some b[k].sum:=by simp[hlt]
   have a:∀j,j<8->wr.cell? (Zd og (k *8+j))=some (.int .u8 (kB b[k].sum j)):=λj v=>(n.cellAt _ Yv).ah (EQ D v);have B:=a 0 Yv;have Q:=a 1 Yv;have R:=a 2 Yv;have S:=a 3 Yv;have T:=a 4 Yv;have U:=a 5 Yv;have V:=a 6 Yv;have W:=a 7 Yv;rw[Nat.add_zero]at B
   have H:=VG o d m u z _ P L I F l f b O M s b[k] wr t Z zA g (K _ g).1 (K _ g).2 ((c.cell (p:=⟨u,0,none⟩) X).ah C) ((c.cell (p:=⟨z,0,none⟩) r).ah E);unfold Ca Cy at H;have A:=Yw H;clear a D n t g H;generalize b[k]=x at *
   go_wp2_with fail;refine A.Ai ?_;rintro e H ⟨t,rfl,n,D⟩;have g:=c.ah (D.aj i);have a:=Yw n;clear n B Q R S T U V W A;cases t
   .have A:Hid (∀j y,j<k+1->b[j]?=some y->¬s∈y.B):=by
     intro j y v n;rcases Bz j k with t|t
     .exact q j y t n
     .obtain rfl:j=k:=Yv
      rw[J.o]at n;cases n;exact λh=>by have:=a.2 h;simp at this
    go_wp2;exact⟨⟨k+1,Yv,Yn,A,g⟩,Ys⟩
   .go_wp2;go_ret;exact⟨_,rfl,⟨(λ_=>⟨x,Zs J,a.1 (by trivial)⟩),(λ_=>Yv)⟩,g⟩
  .go_wp2;go_ret;refine⟨_,rfl,⟨(λh=>Yv),(λ⟨p,hp,h⟩=> ?_)⟩,c⟩;obtain⟨j,v,rfl⟩:=getElem_of_mem hp;exact absurd h (q j _ Yv (Zv v))
theorem Mc(f d m o q:Nat)(p:Zk)(g:Nat)(P L:D4)(t n b a:Int)(c:Dj)(y:Dy)(x:Dv)(s:Zi)(w:Zh)(i:Dr w f d m (C3 p c.length g) P L t n b a c y x)(A:(c.map (·.sum)).Nodup)(C:∀k∈c,(k.sum.size:Int)=t)(E:JO c)(D:c.length<=600)(z:w.cell? (Zd o 0)=some (Yy d))(B:w.cell? (Zd q 0)=some (C4 s)):
 D8 169 #[C3 p c.length g,.func (.func 170) #[] #[Yy o,Yy q]] w λe l=>∃j,e=C5 (.bool j)/\(j=true↔∃k∈c,s∈k.B)/\Zz w l:=by
 have u:=Yw (PF f d m o q p g P L t n b a c y x s w i A C E D z B);clear i;go_enter func169,ntmps169;go_wp2_with fail;refine u.Ai ?_;rintro e F ⟨r,rfl,l,j⟩;have v:=Yw l;clear l u;by_cases h:0<=r
 .have i:decide ((0:Int)<=r)=true:=D2 h
  go_wp2;go_ret;exact⟨true,rfl,⟨(λ_=>v.1 h),(λ_=>rfl)⟩,j⟩
 .have i:decide ((0:Int)<=r)=false:=D2 h
  go_wp2;go_ret;exact⟨false,rfl,⟨(λe=>by cases e),(λe=>absurd (v.2 e) Yv)⟩,j⟩
theorem Uo(f d m:Nat)(O P L:D4)(o j b a:Int)(c:Dj)(u:Dy)(t:Dv)(s:Zi)(w:Zh)(n:Dr w f d m O P L o j b a c u t)(v:(c.map (·.sum)).Nodup)(x:∀k∈c,(k.sum.size:Int)=o)(B:JO c)(A:c.length<=600):
 D8 148 #[Yy d,C4 s] w λe g=>∃i,e=C5 (.bool i)/\(i=true↔∃k∈c,s∈k.B)/\Zz w g:=by
 have D:∀(fn:Fn) (first cap:Array Value) (w:Zh),(Instr.makeFunc fn first cap).run prog w=.ok (.func fn first cap) w:=λ_ _ _ _=>rfl;obtain⟨C,y,rfl⟩:=Aq n.ord;have⟨W,g⟩:=Ae ((w.alloc (.cells #[Yy d] 62)).alloc (.cells #[C4 s] 9));have l:=(Bi g).1;have z:W.cell? (Zd (w.1.size) 0)=some (Yy d):=by rw[g];simp[go_sem]
 have r:W.cell? (Zd (w.1.size+1) 0)=some (C4 s):=by rw[g];simp[go_sem]
 have h:=n.A l;have p:=Yw (Mc f d m w.1.size (w.1.size+1) C y P L o j b a c u t s W h v x B A z r);obtain⟨E,_⟩:=h.box 5 _ rfl;have q:=Yw g;clear g h n r;go_enter func148,ntmps148;go_upto_region 1 with fail;rw[<-q.o];clear q;go_wp2_with fail;refine p.Ai ?_;rintro e r ⟨i,rfl,g,h⟩;have q:=Yw g;have n:=l.ah (h.aj l.size);clear g p;go_wp2;go_ret;exact⟨i,rfl,q,n⟩
theorem KO(c d m:Nat)(O P L:D4)(n j b a:Int)(f:Dj)(i:Dy)(h:Dv)(s:Zi)(w:Zh)(g:Dr w c d m O P L n j b a f i h)(v:(f.map (·.sum)).Nodup)(x:∀k∈f,(k.sum.size:Int)=n)(C:JO f)(z:f.length<=600)(B:i.length<=100)(A:h.length<=200):
 D8 127 #[Yy d,C4 s] w λe q=>∃o,e=C5 (.bool o)/\(o=true↔((∃p∈i,p.sum=s)\/∃l∈h,l.sum=s)\/∃k∈f,s∈k.B)/\Zz w q:=by
 have r:=Yw g;clear g;go_enter func127,ntmps127;go_wp2_with fail;refine(Sz c d m O P L n j b a f i h s w r B A).aj ?_;rintro e D ⟨t,rfl,q,g⟩;have o:=Yw q;clear q;cases t
 .go_wp2_with fail;refine(Uo c d m O P L n j b a f i h s D (Dr.A r g) v x C z).aj ?_;rintro e E ⟨y,rfl,t,u⟩;have q:=Yw t;clear t;go_wp2;go_ret;exact⟨y,rfl,⟨(λe=> .inr (q.1 e)),(λe=>e.elim (λe=>by have:=o.2 e;simp at this) q.2)⟩,g.ah (u.aj g.size)⟩
 .go_wp2;go_ret;exact⟨true,rfl,⟨(λ_=> .inl (o.1 (by trivial))),(λ_=>rfl)⟩,g⟩
theorem EI(g d m:Nat)(O P L:D4)(l u b a:Int)(c:Dj)(x:Dy)(v:Dv)(s:Zi)(w:Zh)(j:Dr w g d m O P L l u b a c x v)(r:∀k∈c,(k.sum.size:Int)=l)(t:Am c s):
 D8 116 #[Yy d,C4 s] w λe h=>e=C5 (.tuple #[])/\Zz w h:=by
 have⟨n,f,A,q,p⟩:=j.map;have⟨B,i,h⟩:=Fm l m n f c w w.1.size s w q p.holds r;obtain rfl:=i.2 t;obtain⟨y,z⟩:=Aa.c2 j.box 0 1;have o:=Yw (h w Ad);clear h i j q p;go_enter func116,ntmps116;go_wp2_with fail;refine o.Ai ?_;rintro e i ⟨rfl,h⟩;clear o;go_wp2
 go_end0
 exact⟨rfl,h⟩
end
structure Tn (V:List Nat) (w w':Zh):Prop where
 os:w'.os=w.os
 tape:w'.tape=w.tape
 output:w'.output=w.output
 size:w.1.size<=w'.1.size
 block:∀b,b<w.1.size->b∉V->w'.1[b]?=w.1[b]?
theorem Tn.of{a:Zh}(h:Zz w a):Tn V w a:=⟨h.os,h.tape,h.output,h.size,λb c _=>h.block b c⟩
theorem Tn.grown{a:Zh}(h:w.grownBy a (some g))(d:g∈V):Tn V w a:=⟨h.os,h.tape,h.output,h.size,λb c f=>h.block b c (λe=>f (A4 e▸d))⟩
theorem Tn.set(w:Zh)(g j:Nat)(v:D4)(a:g∈V):Tn V w (w.setCell (Zd g j) v):=Tn.grown (Av w g j v) a
theorem Tn.trans{a b c:Zh}(h:Tn V a b)(k:Tn V b c):Tn V a c:=
 ⟨k.os.ah h.os,k.tape.ah h.tape,k.output.ah h.output,Zm h.size k.size,λq d e=>(k.block q (Zr d h.size) e).ah (h.block q d e)⟩
abbrev Tn.ah:=@Tn.trans
theorem Tn.A{a:Zh}(h:Tn V w a)(e:B<=w.1.size)(c:∀b∈V,B<=b):Below B w a:=⟨h.os,h.tape,h.output,h.size,λb d=>h.block b Yv (λd=>Dz (c b d))⟩
theorem Tn.mono{V':List Nat}{a:Zh}(h:Tn V w a)(c:∀b∈V,b∈V'):Tn V' w a:=⟨h.os,h.tape,h.output,h.size,λb d f=>h.block b d (λe=>f (c b e))⟩
abbrev Tn.aj:=@Tn.mono
theorem AN.same{a:Zh}{K:TypeId}{f:Lit->Option Value}(h:AN w K b n f)(i:a.1[b]?=w.1[b]?):AN a K b n f:=by obtain⟨D,⟨c,clock,d,e⟩,g⟩:=h;exact⟨D,⟨c,clock,i.ah d,e⟩,g⟩
theorem DG.K{k:Zh}{c:Nat}{a:Zk}{j:Zl}(h:DG w c V a j)(f:Tn V w k):DG k c V a j:=by
 rcases h with h|⟨b,d,l,e,g,o,m⟩
 .exact .inl h
 .exact .inr ⟨b,d,l,Zr e f.size,g,(by rw[f.block b e g];exact o),λi s n=>(cell?_of_block (a:=⟨b,d+i,none⟩) (f.block b e g)).ah (m i s n)⟩
theorem Md{P:Program}{b:Array Oper}{o:Oper}{a:Act}{K:Act->Zh->Prop}{Q:Exit->Act->Zh->Prop}{E:Prop}(e:o.guard=none)(s x:Operand)(t u:TypeId)(f:o.op=.call {callee:=.builtin .delete,args:= #[s,x],argTypes:= #[t,u]}){v d:D4}{c:Zh}(i:a.eval s=v)(k:a.eval x=d)(g:(Builtin.delete_ #[t,u] o.type #[v,d]).run P w=.ok (.tuple #[]) c)(h:K (a.put o.dst (.tuple #[])) c):
 if Region.wanted o (yielded b a.tmps)=true then Oper.wp P o a w K Q else E:=by
 have j:Region.wanted o (yielded b a.tmps)=true:=by simp[Region.wanted,e]
 rw[if_pos j];unfold Oper.wp execOp;simp only[f,resolve,invoke,builtin,Sem.run_bind,Sem.run_pure,Result.andThen_ok,map_toArray,map_cons,map_nil,i,k,g];exact h
def CJ(ks:List Kd)(s:Zi):List Kd:=ks.filter (fun k=> !decide (k.sum=s))
theorem KP{b:Dj}(a:(b.map (·.sum)).Nodup)(c:b[i]?=some k):CJ b k.sum=b.eraseIdx i:=by
 induction b generalizing i with
 |nil=>simp at c
 |cons x xs ih=>
  simp only[map_cons,nodup_cons,mem_map,not_exists,not_and]at a;cases i with
  |zero=>simp at c;subst c;unfold CJ;simp only[filter_cons,decide_true,Bool.not_true,Bool.false_eq_true,if_false,eraseIdx_zero,tail_cons];exact filter_eq_self.2 (λy d=>D2 (a.1 y d))
  |succ i=>
   have d:xs[i]?=some k:=D2 c
   have g:=Zs d;have f:¬x.sum=k.sum:=λe=>a.1 k g e.symm;have:=ih a.2 d;unfold CJ at *
   simp[f,this]
theorem Up{f:Zl}(h:Fp f s i)(o:s∈f)(c:f.Pairwise (λa b=>less a b=true)):f[i]?=some s:=by
 have⟨j,d⟩:=A5 o;have n:=(Zw d).1;rcases Bz j i with k|k
 .have:=h.lo j s k d;rw[By]at this;cases this
 .rcases Bz i j with g|g
  .have l:=pairwise_iff_getElem.1 c i j Yv n g;have m:=h.hi i _ (Zx) (Zv Yv);have⟨_,e⟩:=Zw d;rw[e]at l;rw[l]at m;cases m
  .obtain rfl:j=i:=Yv
   exact d
structure Ev (wd:Int) (ks:List Kd):Prop where
 nd:(ks.map (·.sum)).Nodup
 dm:(ks.map (·.sum)).Pairwise (fun a b=>less a b=true)
 sz:∀k∈ks,(k.sum.size:Int)=wd
 B:JO ks
 len:ks.length<=600
 w8:wd<=8
theorem BS.drop{i:Zh}{d:Int}{g:Dj}{f:Lit->Option Value}(h:BS w b V d g f)(q:Tn V w i)(y:(s.size:Int)=d)(x:d<=8):BS i b V d (CJ g s) (gn f (keyL s)):=by
 intro t k;by_cases hts:t=s
 .subst hts;exact .inl ⟨by simp[gn],λ⟨u,c,a⟩=>by simp[CJ,a]at c⟩
 .have j:keyL t≠keyL s:=λe=>hts (key_inj e Yv Yv);have n:gn f (keyL s) (keyL t)=f (keyL t):=by simp[gn,j]
  rw[n];rcases h t k with⟨l,m⟩|⟨u,r,v,c,a,o,p⟩
  .exact .inl ⟨l,λ⟨u,c,a⟩=>m ⟨u,(Bb.1 c).1,a⟩⟩
  .exact .inr ⟨u,r,v,Bb.2 ⟨c,by simp[a,hts]⟩,a,o,p.K q⟩
theorem Dr.apart{B:Zh}{k:Nat}{G t:Int}{D:Dj}{F:Dy}{E:Dv}(h:Dr w k d m O P L G t j c D F E)(y:Tn [R] w B)(Y:k<=R)(N:R∉vB d m O P L)(x:∀p l,w.1[R]?≠some (.cells p 9 l)):Dr B k d m O P L G t j c D F E:=by
 have⟨n,f,K,C,M⟩:=h.map;have o:∀b,b<w.1.size->b∈vB d m O P L->B.1[b]?=w.1[b]?:=λb q z=>y.block b q (λe=>N (by simp at e;exact e▸z))
 refine⟨Aa.same h.box (o d h.box.lt (by simp[vB])),⟨n,f,K,AN.same C (o m C.lt (by simp[vB])),?_⟩,As h.ord (λg l=>o g (Ac h.ord l).2 (by simp[vB,l])),As h.cj (λg l=>o g (Ac h.cj l).2 (by simp[vB,l])),As h.dq (λg l=>o g (Ac h.dq l).2 (by simp[vB,l])),h.bd,h.bm,h.ap⟩;intro s I;rcases M s I with J|⟨u,W,X,T,U,V,A⟩
 .exact .inl J
 .refine .inr ⟨u,W,X,T,U,V,?_⟩;rcases A with A|⟨b,v,Q,q,z,l,S⟩
  .exact .inl A
  .have H:b≠R:=by
    rcases l with l|⟨_,p,l⟩
    .omega
    .exact λe=>x p _ (e▸l)
   have r:=y.block b q (D2 H);exact .inr ⟨b,v,Q,Zr q y.size,z,(by rw[r];exact l),λi s x=>(cell?_of_block (a:=⟨b,v+i,none⟩) r).ah (S i s x)⟩
def SA(B:Nat)(wd:Int)(f:Lit->Option Value):Prop:=∀s:Zi,(s.size:Int)=wd->∀u ra rc,f (keyL s)=some (CW u ra rc)->∀p,ra=some p->u.B.length≠0->p.block<B
def DB(w:Zh)(base B d m:Nat)(O P L:Value)(wd births:Int)(ks:List Kd):Prop:=(∀g∈vB d m O P L,g<B)/\∃n f,n<=1000000+births.toNat/\AN w 75 m n f/\BS w base (vB d m O P L) wd ks f/\SA B wd f
def DBk(w w':Zh)(base d m:Nat)(O O' P L:Value)(wd births:Int)(ks:List Kd)(s:Zi):Prop:=∀B,B<=w.1.size->DB w base B d m O P L wd births ks->DB w' base B d m O' P L wd births (CJ ks s)
theorem SA.gn{f:Lit->Option Value}(h:SA B a f)(k:Lit):SA B a (gn f k):=by
 intro s b u c d e;refine h s b u c d ?_;unfold Proofs.YtdofmfnmackjhaaGreatDoor.gn at e;split at e
 .cases e
 .exact e
theorem VH(r d m:Nat)(O P L:D4)(K J t j:Int)(o:Dj)(T:Dy)(S:Dv)(s:Zi)(w:Zh)(u:Dr w r d m O P L K J t j o T S)(q:Ev K o)(hp:T.length<=100)(hl:S.length<=200)(zA:Am o s)(U:¬(((∃p∈T,p.sum=s)\/∃l∈S,l.sum=s)\/∃k∈o,s∈k.B)):
 D8 96 #[Yy d,C4 s] w λe z=>e=C5 (.tuple #[])/\∃y,Dr z r d m y P L K J t j (CJ o s) T S/\y.ownBlock=O.ownBlock/\Tn (vB d m O P L) w z/\DBk w z r d m O y P L K j o s:=by
 obtain⟨k0,Q,l⟩:=zA;have zA:Am o s:=⟨k0,Q,l⟩;have zH:=l▸q.sz k0 Q;have hlen:=length_pos_of_mem Q;obtain⟨g,D,rfl,zP,zR⟩:=BF u.ord (λe=>by have:=Aq u.ord;obtain⟨a,c,e'⟩:=this;rw[e']at e;injection e with _ h2 _;omega);have HD:=Yw u;clear u;go_enter func96,ntmps96;go_wp2_with fail;refine(EI r d m _ P L K J t j o T S s w HD q.sz zA).aj ?_;rintro e w1 ⟨rfl,G⟩;have y:=Yw (Dr.A HD G)
 go_wp2_with fail;refine(KO r d m _ P L K J t j o T S s w1 y q.nd q.sz q.B q.len hp hl).aj ?_;rintro e w2 ⟨ok,rfl,u,I⟩;obtain rfl:ok=false:=by
  cases ok with
  |false=>rfl
  |true=>exact absurd (u.1 rfl) U
 have z:=Yw (Dr.A y I);clear u y;go_wp2_with fail;refine(GR s w2).aj ?_;rintro e C ⟨rfl,N⟩;have⟨E,y⟩:=D6 C (Yk (kB s)) 75;have zB:=(AE y).1;have i:Aa E C.1.size (Au s):=by rw[y];exact Aa.new C (Au s) 75
 have B4:=((G.ah (I.aj G.size)).ah (N.aj (Zm G.size I.size))).ah (zB.aj (Zm (Zm G.size I.size) N.size));have u:=Yw (Dr.A (Dr.A z N) zB);have A:=Yw y;clear y z;go_upto_region 4 with fail;rw[<-A.o];clear A;have⟨n,f,hn,Y,hH⟩:=u.map;have⟨w5,R,zJ,h⟩:=(Y.ag (Below.refl E.1.size E).drew Y.lt).del keyed underlying79 (CE s) 0
 have H:∀A F,AN E 75 m A F->AN w5 75 m A (gn F (keyL s)):=λA F y=>by have⟨zV,M,W,_⟩:=(y.ag (Below.refl E.1.size E).drew y.lt).del keyed underlying79 (CE s) 0;rw[R]at M;cases M;exact W
 have zI:=Yw Y;have zO:=u.box.lt;have y:=u.ap;have zC:d≠m:=by intro e;unfold vB at y;simp[e]at y
 have Z:d≠g/\m≠g:=by unfold vB at y;simp[ownBlock]at y;omega
 have zT:=(HD.map.choose_spec.choose_spec.2.1).lt;have zU:=Zm (Zm G.size I.size) N.size;have z:=Dn h;have k5:=Aa.aw (v:=.int .u8 (kB s 0)) i z Yv;have b:=Aa.aw u.box z (λe=>zC e.symm);have P4:E.drew.cell? (Zd d 1)=some (.map (some m))/\_:=⟨(u.box 1 _ rfl).1,Hd (w:=E.drew) i⟩;have P5:w5.cell? (Zd d 1)=some (.map (some m))/\_:=⟨(b 1 _ rfl).1,Hd k5⟩;unfold Ca Cy at R
 go_region_held3 (λX=>X.cell? (Zd d 1)=some (.map (some m))/\(X.cell? (Zd (C.1.size) 0)=some (.int .u8 (kB s 0))/\X.cell? (Zd (C.1.size) 1)=some (.int .u8 (kB s 1))/\X.cell? (Zd (C.1.size) 2)=some (.int .u8 (kB s 2))/\X.cell? (Zd (C.1.size) 3)=some (.int .u8 (kB s 3))/\X.cell? (Zd (C.1.size) 4)=some (.int .u8 (kB s 4))/\X.cell? (Zd (C.1.size) 5)=some (.int .u8 (kB s 5))/\X.cell? (Zd (C.1.size) 6)=some (.int .u8 (kB s 6))/\X.cell? (Zd (C.1.size) 7)=some (.int .u8 (kB s 7))))
  (first|with_reducible exact P4|with_reducible exact P5)
  (first|(refine Md Yp (.tmp 21) (.tmp 22) 79 75 Yp Yp Yp R ?_))
 have V:=ownsRow.kept u.ord z (.inr (λe=>Z.2 (A4 e).symm));have X:=Ug r d m g D P L K J t j o s w5 b V q.len (Dz q.w8) (λx p=>Dz (q.sz x p)) q.dm;have⟨q0,q1,q2,q3,q4,q5,q6,q7⟩:=Hd k5;have p:=Yw X;unfold Ca Cy at p;have x:=Yw (Zn b V);have H5:=Yw (Zn H (Zn z hH));clear X P4 P5 R zJ h z b V i k5 Y H;go_wp2_with fail;refine p.Ai ?_
 rintro e w6 ⟨i,rfl,h,Y⟩;have H:=Up h (mem_map.2 ⟨k0,Q,l⟩) q.dm;have zS:=q.len;have X:i<o.length:=by have:=(Zw H).1;simpa using this
 have x6:=Aa.A x.1 Y;obtain⟨y5,f5⟩:=x6 5 _ rfl;have b:w6.ownsRow r 75 8 (Yz g (o.map (·.sum)).length D) (o.map (·.sum)).length (AH (o.map (·.sum))):=by rw[A9];exact Ah x.2 Y
 have z:=Om g D i (o.map (·.sum)) w6 r b (by rw[A9];exact q.len) (by rw[A9];exact X);rw[A9]at z;have V:=Yw z;have R:=Yw (Zn H (Zn x6 Y));clear h H x6 z b p q0 q1 q2 q3 q4 q5 q6 q7;go_wp2_with fail;refine V.Ai ?_;rintro e w7 ⟨rfl,H,z⟩;have b:=Aa.aw R.2.1 z (λe=>Z.1 e.symm);obtain⟨y7,f7⟩:=b 5 _ rfl;have p:=Yw (Zn b (Zn H z));clear b H z y5 f5 V
 go_wp2
 go_end0
 have V:Tn [d,m,g] E (w7.setCell (Zd d 5) (Yz g (o.length -1) D)):=
  (((Tn.grown H5.2.1 Yu).ah (Tn.of R.2.2)).ah (Tn.grown p.2.2 Yu)).ah (Tn.set w7 d 5 _ Yu)
 have H:∀b∈[d,m,g],b∈vB d m (Yz g o.length D) P L:=by intro b z;simp at z;unfold vB;rcases z with rfl|rfl|rfl<;>simp[ownBlock]
 have zG:∀v:Value,(v=P\/v=L)->∀b,v.ownBlock=some b->b∉[d,m,g]:=by
  intro v hv b z zE;unfold vB at y;rcases hv with rfl|rfl
  .simp only[nodup_cons,Bv,A7,A8,z]at y;simp[ownBlock]at y zE
   grind
  .simp only[nodup_cons,Bv,A7,A8,z]at y;simp[ownBlock]at y zE
   grind
 have zM:∃k,o[i]?=some k/\k.sum=s:=by
  have:=R.1;rw[getElem?_map]at this;cases hk:o[i]? with
  |none=>rw[hk]at this;cases this
  |some k=>rw[hk]at this;exact⟨k,rfl,D2 this⟩
 obtain⟨ki,zN,k⟩:=zM;have zK:=k▸KP q.nd zN;have zF:∀A F,AN E 75 m A F->AN (w7.setCell (Zd d 5) (Yz g (o.length -1) D)) 75 m A (gn F (keyL s)):=λA F h=>by have h5:=H5.1 A F h;refine AN.same (AN.same (h5.ag R.2.2 h5.lt) (p.2.2.block m (Zr h5.lt R.2.2.size) (λe=>Z.2 (A4 e)))) ?_;exact Below.heap_setCell _ _ _ _ (λe=>zC e.symm)
 refine⟨rfl,Yz g (o.length -1) D,⟨Aa.set p.1 5 _,⟨n,gn f (keyL s),hn,zF n f zI,?_⟩,?_,?_,?_,u.bd,u.bm,y⟩,rfl,(Tn.of B4).ah (V.aj H),λB _ ⟨hv,A,F,h0,h,h2,h3⟩=>⟨hv,A,_,h0,zF A F (h.ag B4 h.lt),BS.drop (h2.A B4) (V.aj H) zH q.w8,h3.gn _⟩⟩
 .exact BS.drop H5.2.2 (V.aj H) zH q.w8
 .rw[zK];have h:(o.eraseIdx i).length=o.length -1:=by rw[length_eraseIdx,if_pos X]
  rw[h];have h2:(o.eraseIdx i).map (·.sum)=(o.map (·.sum)).eraseIdx i:=by simp[eraseIdx_eq_take_drop_succ]
  rw[h2];exact BH p.2.1 (λb z=>by simp[ownBlock]at z;omega) 5 _
 .exact As u.cj (λb z=>V.block b (Ac u.cj z).2 (zG P (.inl rfl) b z))
 .exact As u.dq (λb z=>V.block b (Ac u.dq z).2 (zG L (.inr rfl) b z))
theorem Dr.dj{h:Int}{i:Dj}{k:Dy}{j:Dv}(f:Dr w g d m O P L l h e c i k j):∀b∈vB d m O P L,b<w.1.size:=by
 intro b a;unfold vB at a;simp only[Bv,A7,A8]at a;rcases a with rfl|rfl|a|a|a
 .exact f.box.lt
 .exact(f.map.choose_spec.choose_spec.2.1).lt
 .exact(Ac f.ord a).2
 .exact(Ac f.cj a).2
 .exact(Ac f.dq a).2
def Cl(c:Int)(a b:Zi):Value:=.iface 120 (.agg #[Zg c,.string a,.string b])
theorem Uq(c d m:Nat)(O P L:D4)(q o b a:Int)(h:Dj)(j:Dy)(i:Dv)(s:Zi)(w:Zh)(g:Dr w c d m O P L q o b a h j i)(f:Ev q h)(A:j.length<=100)(z:i.length<=200)(y:Am h s)(r:((∃p∈j,p.sum=s)\/∃l∈i,l.sum=s)\/∃k∈h,s∈k.B):
 D8 96 #[Yy d,C4 s] w λe n=>e=.panicked [{v:=Cl 6 ⟨#[]⟩ ⟨#[]⟩,recovered:=false}]/\Zz w n:=by
 have u:=Yw g;clear g;go_enter func96,ntmps96;go_wp2_with fail;refine(EI c d m O P L q o b a h j i s w u f.sz y).aj ?_;rintro e B ⟨rfl,n⟩;have t:=Yw (Dr.A u n);go_wp2_with fail;refine(KO c d m O P L q o b a h j i s B t f.nd f.sz f.B f.len A z).aj ?_;rintro e D ⟨C,rfl,g,x⟩;obtain rfl:=g.2 r;clear g t;go_wp2;exact⟨rfl,rfl,n.ah (x.aj n.size)⟩
def z12:Zj:=[Ze,Ze,Ze,Ze,Ze,Zb,Zb,Zb,Zc,Ze,Zc,Zc]
theorem Bf(h:Aa w b z12):(w.cell? (Zd b 0)=some Ze/\w.frozen? ⟨b,0,none⟩=false)/\(w.cell? (Zd b 1)=some Ze/\w.frozen? ⟨b,1,none⟩=false)/\(w.cell? (Zd b 2)=some Ze/\w.frozen? ⟨b,2,none⟩=false)/\(w.cell? (Zd b 3)=some Ze/\w.frozen? ⟨b,3,none⟩=false)/\(w.cell? (Zd b 4)=some Ze/\w.frozen? ⟨b,4,none⟩=false)/\(w.cell? (Zd b 5)=some Zb/\w.frozen? ⟨b,5,none⟩=false)/\(w.cell? (Zd b 6)=some Zb/\w.frozen? ⟨b,6,none⟩=false)/\(w.cell? (Zd b 7)=some Zb/\w.frozen? ⟨b,7,none⟩=false)/\(w.cell? (Zd b 8)=some Zc/\w.frozen? ⟨b,8,none⟩=false)/\(w.cell? (Zd b 9)=some Ze/\w.frozen? ⟨b,9,none⟩=false)/\(w.cell? (Zd b 10)=some Zc/\w.frozen? ⟨b,10,none⟩=false)/\(w.cell? (Zd b 11)=some Zc/\w.frozen? ⟨b,11,none⟩=false):=
 ⟨h 0 _ rfl,h 1 _ rfl,h 2 _ rfl,h 3 _ rfl,h 4 _ rfl,h 5 _ rfl,h 6 _ rfl,h 7 _ rfl,h 8 _ rfl,h 9 _ rfl,h 10 _ rfl,h 11 _ rfl⟩
theorem Bs(w:Zh)(R:Nat)(c d e f g i k l m n a b:D4):Tn [R] w ((((((((((((w.setCell (Zd R 0) c).setCell (Zd R 1) d).setCell (Zd R 2) e).setCell (Zd R 3) f).setCell (Zd R 4) g).setCell (Zd R 5) i).setCell (Zd R 6) k).setCell (Zd R 7) l).setCell (Zd R 8) m).setCell (Zd R 9) n).setCell (Zd R 10) a).setCell (Zd R 11) b):=
 have h:∀(x:Zh) (j:Nat) (v:D4),Tn [R] x (x.setCell (Zd R j) v):=λx j v=>Tn.set x R j v Yu
 (((((((((((h w 0 c).ah (h _ 1 d)).ah (h _ 2 e)).ah (h _ 3 f)).ah (h _ 4 g)).ah (h _ 5 i)).ah (h _ 6 k)).ah (h _ 7 l)).ah (h _ 8 m)).ah (h _ 9 n)).ah (h _ 10 a)).ah (h _ 11 b)
theorem Tn.fresh{f e:Zh}(a:Tn V w f)(c:Tn [R] f e)(h:w.1.size<=R):Tn V w e:=
 ⟨c.os.ah a.os,c.tape.ah a.tape,c.output.ah a.output,Zm a.size c.size,λb d g=>(c.block b (Zr d a.size) Yt).ah (a.block b d g)⟩
theorem SB(p:Addr)(w:Zh):
 CallsD prog 61 #[.pointer (some p)] .returning w λe a b=>e=C5 (.tuple #[])/\a=.returning/\b=w:=by
 have a:∀w:Zh,(binOp BinOp.eql 20 .nilIface .nilIface).run prog w=.ok (.bool true) w:=λ_=>Yr
 refine callsD_of_wpS func61 rfl λc₀ cs hu=> ?_;apply wpS_seq;apply wpS_region;simp[wpOpsS,go_sem,recoverD,hu,ntmps61,Exit.thenS];refine wpS_of_wp ?_;change Code.wp prog _ _ {tmps:= #[pointer (some p),undef,undef,undef,nilIface,undef,undef,undef,undef,undef,undef,undef,undef,undef,undef,undef,undef],defers:=[]} w;go_wp2;cases c₀;simp_all [bodyPostS,results,results61]
theorem SC(h:Aa w b z12)(d e f g i j k l m n a c:D4):Aa ((((((((((((w.setCell (Zd b 0) d).setCell (Zd b 1) e).setCell (Zd b 2) f).setCell (Zd b 3) g).setCell (Zd b 4) i).setCell (Zd b 5) j).setCell (Zd b 6) k).setCell (Zd b 7) l).setCell (Zd b 8) m).setCell (Zd b 9) n).setCell (Zd b 10) a).setCell (Zd b 11) c) b [d,e,f,g,i,j,k,l,m,n,a,c]:=
 ((((((((((((h.set 0 d).set 1 e).set 2 f).set 3 g).set 4 i).set 5 j).set 6 k).set 7 l).set 8 m).set 9 n).set 10 a).set 11 c)
def BE(c:Int)(a b:Zi):Zj:=[Zg c,Ze,Ze,Ze,Ze,Zb,Zb,Zb,Zc,Ze,.string a,.string b]
theorem QQ(R:Nat)(c:Int)(a b:Zi)(w:Zh)(d:Aa w R z12):
 CallsD prog 61 #[Yy R] (.panicking [{v:=Cl c a b,recovered:=false}]) w λe g f=>e=C5 (.tuple #[])/\g=.panicking [{v:=Cl c a b,recovered:=true}]/\Aa f R (BE c a b)/\Tn [R] w f:=by
 have g:∀w:Zh,(binOp BinOp.eql 20 (.iface 120 (.agg #[Zg c,C4 a,C4 b])) .nilIface).run prog w=.ok (.bool false) w:=λ_=>by first|rfl|kernel_rfl
 have j:∀w:Zh,(Instr.typeAssert (.iface 120 (.agg #[Zg c,C4 a,C4 b])) 20 120 true).run prog w=.ok (.tuple #[.agg #[Zg c,C4 a,C4 b],.bool true]) w:=λ_=>by first|rfl|kernel_rfl
 have⟨⟨A,o⟩,⟨B,p⟩,⟨C,q⟩,⟨D,r⟩,⟨E,s⟩,⟨F,t⟩,⟨G,u⟩,⟨H,x⟩,⟨I,y⟩,⟨J,z⟩,⟨m,k⟩,n,l⟩:=Bf d;have h:=Aa.lt (v:=Ze) d;have i:¬w.1.size=R:=Yv
 have f:¬R=w.1.size:=Yv
 unfold Cl;refine callsD_of_wpS func61 rfl λc₀ cs hu=> ?_;apply wpS_seq;apply wpS_region;simp[wpOpsS,go_sem,recoverD,hu,ntmps61,Exit.thenS];refine wpS_of_wp ?_;change Code.wp prog _ _ {tmps:= #[Yy R,undef,undef,undef,.iface 120 (.agg #[Zg c,C4 a,C4 b]),undef,undef,undef,undef,undef,undef,undef,undef,undef,undef,undef,undef],defers:=[]} w;go_wp2;simp[bodyPostS,results,results61]
 exact⟨Aa.A (v:=Zg c) (SC d _ _ _ _ _ _ _ _ _ _ _ _) (Zy),(Bs w R _ _ _ _ _ _ _ _ _ _ _ _).ah (Tn.of (Zy))⟩
theorem Holds.low{W:Zh}{b:Int}{a:Dj}{f:Lit->Option Value}(h:Holds W B b a f)(i:Below B W w):Holds w B b a f:=by
 intro s j;rcases h s j with h|⟨u,k,l,c,d,e,g⟩
 .exact .inl h
 .exact .inr ⟨u,k,l,c,d,e,Af.A g i⟩
def HU(w:Zh)(base m:Nat)(wd:Int)(ks:List Kd):Prop:=∃n f,n<=1000000/\AN w 75 m n f/\Holds w base wd ks f/\m<base+4
theorem AP(w:Zh)(R j:Nat)(v:D4):Tn [R] w (w.setCell (Zd R j) v):=Tn.set w R j v Yu
theorem EJ{c:Zh}{b:Option Nat}(a:w.grownBy c b):Tn b.toList w c:=⟨a.os,a.tape,a.output,a.size,λk d f=>a.block k d (λe=>f (by simp[<-e]))⟩
def HN(w:Zh)(m N:Nat):Prop:=∃n f,n<=N/\AN w 75 m n f
theorem PG(A z h c:Int)(a p l:Zk)(T R Q:Nat)(j:Dj)(t:Dy)(s:Dv)(w:Zh)(o:Bx w w.1.size a p l j t s)(hk:j.length<=600)(hp:t.length<=100)(hl:s.length<=200)(yA:∀k∈j,(k.sum.size:Int)=A)(h8:A<=8):
 D8 25 #[.agg (Yg A z h c a j.length T p t.length R l s.length Q)] w λe n=>∃d m O P L,e=C5 (Yy d)/\Dr n (w.1.size+1) d m O P L A z h c j t s/\HU n (w.1.size+1) m A j/\(HN n m 600/\m<=w.1.size+3)/\Zz w n:=by
 have y:=Aw.new w A z h c (C1 a j T) (C1 p t R) (C1 l s Q) 27;have⟨r,v⟩:=D6 w (C9 A z h c a j T p t R l s Q) 27;have u:=(AE v).1;have zK:=(AE v).2.1;rw[<-v]at y;have H:=Yw o;have d:=Yw y;have zP:=Yw v;have S0:=FM y
 have q:r.drew.cell? (Zd (w.1.size) 0)=some (Zg A)/\r.drew.cell? (Zd (w.1.size) 1)=some (Zg z)/\r.drew.cell? (Zd (w.1.size) 2)=some (Zg h)/\r.drew.cell? (Zd (w.1.size) 3)=some (Zg c)/\r.drew.cell? (Zd (w.1.size) 4)=some (C1 a j T)/\r.drew.cell? (Zd (w.1.size) 5)=some (C1 p t R)/\r.drew.cell? (Zd (w.1.size) 6)=some (C1 l s Q):=S0
 have K0:AW r.drew r.drew.1.size a j:=AW.aj (AW.A o.k u.drew) u.size;have zV:j.length<=1048576:=Yv
 have zZ:t.length<=1048576:=Yv
 have zW:s.length<=1048576:=Yv
 clear o y v;go_enter func25,ntmps25;go_upto_region 1 with fail;rw[<-zP.o]
 go_region_held3 (λn=>n.cell? (Zd (w.1.size) 0)=some (Zg A)/\n.cell? (Zd (w.1.size) 1)=some (Zg z)/\n.cell? (Zd (w.1.size) 2)=some (Zg h)/\n.cell? (Zd (w.1.size) 3)=some (Zg c)/\n.cell? (Zd (w.1.size) 4)=some (C1 a j T)/\n.cell? (Zd (w.1.size) 5)=some (C1 p t R)/\n.cell? (Zd (w.1.size) 6)=some (C1 l s Q))
  (first|exact S3|exact S2|exact S1|exact q|exact FM (Aw.A i (Zy)))
  (first
  |(go_at_call 36;refine(Gf A z h c a T (C1 p t R) (C1 l s Q) j r.drew K0 zV yA h8).aj ?_;rintro e F ⟨m,f,rfl,hm,P,hH,Y⟩;have N:Below r.1.size r F:=(Below.refl r.1.size r).drew.ah Y;have S1:=FM (Aw.A d N))
  |(go_at_call 59;refine(JE p R t F (AU.aj (AU.A H.p (u.ah (N.aj u.size))) (u.ah (N.aj u.size)).size) zZ).aj ?_;rintro e M ⟨K,D,rfl,Z,E⟩;have S:Below r.1.size r M:=N.ah (E.aj N.size);have S2:=FM (Aw.A d S))
  |(go_at_call 60;refine(IC l Q s M (AS.aj (AS.A H.l (u.ah (S.aj u.size))) (u.ah (S.aj u.size)).size) zW).aj ?_;rintro e o ⟨J,C,rfl,b,n⟩;have L:Below r.1.size r o:=S.ah (n.aj S.size);have i:=Yw (Aw.A d L);have S3:=FM i))
 have⟨I,v⟩:=D6 o #[Zg A,.map (some m),Zg z,Zg h,Zg c,Zb,C1 K t D,C1 J s C] 118;have yH:=(AE v).2.1;have G:=(AE v).1;have Z4:=(AE v).2.2;have yB:w.1.size+1<=F.1.size:=Dz N.size
 have zA:=E.size;have yC:=n.size;have zY:m<F.1.size:=P.lt;have B4:Below w.1.size w I:=(u.ah (L.aj u.size)).ah (G.aj Yv);have zB:Hid (Below r.drew.1.size r.drew I):=((Y.ah (E.aj Yt)).ah (n.aj Yt)).ah (G.aj Yt);have zE:=Yw (Aw.A i G)
 have V:Hid (AN I 75 m j.length f):=P.ag (B:=F.1.size) ((E.ah (n.aj zA)).ah (G.aj Yv)) zY;have zO:Hid (I.ownsRow F.1.size 71 2 (C1 K t D) t.length (Ab pC t)):=Ah (Ah Z n) G;have zM:Hid (I.ownsRow M.1.size 73 3 (C1 J s C) s.length (Ab lC s)):=Ah b G
 have X:Hid (∀g,(C1 K t D).ownBlock=some g->F.1.size<=g/\g<M.1.size):=λg y=>Ac Z y;have U:Hid (∀g,(C1 J s C).ownBlock=some g->M.1.size<=g/\g<o.1.size):=λg y=>Ac b y;have HH:=Yw hH;have zR:=Yw Z4;have zX:w.1.size+1<=m/\m<=w.1.size+3:=by have:=hm;simp at this;omega
 rw[<-v];clear v S0 q S1 S2 S3 i d N S L Y E n P Z b hH Z4 K0 hm;have⟨d,q,L,x3,x4,x5,x6,x7⟩:=zE.o;go_wp2
 go_loopw [25] (λi wr=>∃(k:Nat) (O:D4),k<=j.length/\i=Zg k/\Hid (Aa wr o.1.size [Zg A,.map (some m),Zg z,Zg h,Zg c,O,C1 K t D,C1 J s C])/\Hid (wr.ownsRow (o.1.size+1) 75 8 O ((j.take k).map (·.sum)).length (AH ((j.take k).map (·.sum))))/\Below o.1.size I wr) (λi _=>j.length -(intOf i).toNat)
 case atStart=>exact⟨0,_,Az _,rfl,zR,⟨rfl,.inl ⟨rfl,rfl⟩⟩,Ad⟩
 case round=>
  obtain⟨k,O,yE,rfl,HZ,N,n⟩:=hrel;have⟨d,q,L,x3,x4,x5,x6,x7⟩:=Aw.ag zE n Yv;have yJ:o.1.size+1<=wr.1.size:=Dz n.size
  by_cases hlt:k<j.length
  .obtain⟨b,yK,ha,hb,v⟩:=(AW.A H.k (B4.ah (n.aj Yv))).at hlt;subst ha;have HG:Hid (j[k]?=some j[k]):=Zv hlt;obtain⟨i,c1,c2,ra,rc,c3,_⟩:=v k _ HG;have yD:b<wr.1.size:=Yv
   have HN:Hid ((j.take (k+1)).map (·.sum)=(j.take k).map (·.sum)++[j[k].sum]):=by show _=_;rw[Zu hlt,map_append];rfl
   have yF:((j.take k).map (·.sum)).length<=600:=Yt
   clear v;generalize j[k]=x at *
   generalize (j.take k).map (·.sum)=Os at *
   have⟨E,v⟩:=D6 wr #[C4 x.sum,Zg x.born,C4 x.J,C1 ra x.B rc] 68;have yI:=(AE v).2.1;have P:=(AE v).1;have Y:=(AE v).2.2;have zN:=Yw N.o;have zC:=Yw (Ah N P);have Z:=Yw (Aa.A HZ P);have W:Hid (Below o.1.size I E):=n.ah (P.aj Yv)
   have P5:E.drew.cell? (Zd (o.1.size) 5)=some O/\E.drew.cell? (Zd (wr.1.size) 0)=some (C4 x.sum):=⟨(Z 5 _ rfl).1,(Y 0 _ rfl).1⟩;have D5:Below E.1.size E E.drew:=Ad.drew;have S:=Yw v;clear v Y N HZ;go_upto_region 5 with fail;rw[<-S.o];clear S d q L x3 x4 x5 x6 x7 i c1 c2 c3;obtain⟨d,i⟩:=P5
   have L:∀g,O.ownBlock=some g->o.1.size+1<=g/\g<wr.1.size:=λg y=>Ac zN y;have yG:wr.1.size≠o.1.size:=Yv
   go_region_law (first
    |(go_simp;go_at_call 39;refine(GR x.sum E.drew).aj ?_;rintro e S ⟨rfl,zI⟩;have v:Below E.1.size E S:=D5.ah zI;have zS:S.cell? (Zd (o.1.size) 5)=some O:=(v.cell (p:=⟨o.1.size,5,none⟩) Yt).ah d;have zF:S.cell? (Zd (wr.1.size) 0)=some (C4 x.sum):=(v.cell (p:=⟨wr.1.size,0,none⟩) Yt).ah i;have b7:Below E.1.size E (S.alloc (Cx x.sum)):=v.alloc v.size _;have zG:(S.alloc (Cx x.sum)).cell? (Zd (o.1.size) 5)=some O:=(b7.cell (p:=⟨o.1.size,5,none⟩) Yt).ah d;have zH:(S.alloc (Cx x.sum)).cell? (Zd (wr.1.size) 0)=some (C4 x.sum):=(b7.cell (p:=⟨wr.1.size,0,none⟩) Yt).ah i;have z6:=v.size;have⟨g8,c8,w8,hr8,ho8,hg8,ha8⟩:=Abr S (o.1.size+1) O Os (Ah zC v) x.sum Yv Yv 87;have Z6:=Aa.A Z v;unfold Cx at hr8 zG zH;go_wp2_with fail)
    |(refine Bt Yp (.tmp 33) (.tmp 37) 87 87 Yp Yp Yp hr8 ?_;have zU:w8.cell? (Zd (wr.1.size) 0)=some (C4 x.sum):=hg8.cell zF (λe=>by have:=(L _ e.symm).2;simp at this);have q:Aa w8 o.1.size _:=(Aa.same Z6 (hg8.block o.1.size Yv (λe=>Dz (L _ e.symm).1)));have zT:=(q 5 _ rfl).1;have F8:=(q 5 _ rfl).2))
   all_goals
    have zJ:Below o.1.size I w8:=(W.ah (v.aj Yv)).grown hg8 Yv (λg y=>Dz (L g y).1);have Y:=Yw (Zn q (Zn zJ ho8));clear q zJ ho8 hg8 hr8 Z6 v b7 zI zC Z W d i zS zF zG zH zT zU F8 ha8 D5 P;go_wp2;refine⟨⟨k+1,Yz g8 (Os.length+1) c8,Yv,Yn,?_,?_,?_⟩,Ys⟩
    .exact Aa.set Y.1 5 _
    .rw[HN.o];exact ownsRow_setCell_below Y.2.2 Ym _
    .exact Y.2.1.setCell Yu _
  .obtain rfl:k=j.length:=Yv
   rw[Zt (Zx)]at N;go_wp2;have Z:(vB o.1.size m O (C1 K t D) (C1 J s C)).Nodup:=by
    have P:∀g,O.ownBlock=some g->o.1.size+1<=g:=λg y=>(Ac N y).1;have W:∀g,(C1 K t D).ownBlock=some g->F.1.size<=g/\g<M.1.size:=X.o;have i:∀g,(C1 J s C).ownBlock=some g->M.1.size<=g/\g<o.1.size:=U.o;unfold vB;generalize (C1 K t D).ownBlock=bp at *
    generalize (C1 J s C).ownBlock=bl at *
    generalize O.ownBlock=bo at *
    cases bo<;>cases bp<;>cases bl<;>simp_all<;>omega
   have d:∀q∈vB o.1.size m O (C1 K t D) (C1 J s C),w.1.size+1<=q:=by
    intro q v;unfold vB at v;simp only[Bv,A7,A8]at v;rcases v with rfl|rfl|v|v|v
    .omega
    .omega
    .have:=(Ac N v).1;omega
    .have:=(X _ v).1;omega
    .have:=(U _ v).1;omega
   go_ret;refine⟨_,rfl,m,⟨O,_,_,⟨HZ,⟨j.length,f,Yv,V.ag n Yv,?_⟩,?_,?_,?_,Yv,Yv,Z⟩⟩,⟨j.length,f,Yv,V.ag n Yv,?hu,Yv⟩,⟨⟨j.length,f,hk,V.ag n Yv⟩,zX.2⟩,B4.ah (n.aj Yv)⟩
   .have v:r.drew.1.size=w.1.size+1:=zK;rw[<-v];exact BS.of HH (zB.ah (n.aj Yt)) (λq v=>by have:=d q v;simp;omega) ⟨m,rfl,by rw[v];omega⟩
   .have:=N.o;rw[A9]at this;exact this.aj Yv
   .refine ownsRow.aj ?_ (show w.1.size+1<=F.1.size by omega);exact Pk zO n (λg y=>Dz (X g y).2)
   .refine ownsRow.aj ?_ (show w.1.size+1<=M.1.size by omega);exact Pk zM n (λg y=>Dz (U g y).2)
   case hu=>
    have v:r.drew.1.size=w.1.size+1:=zK;rw[<-v];exact Holds.low HH (zB.ah (n.aj Yt))
def NS(w:Zh)(b:Nat):Prop:=∀cur fz,w.1[b]?≠some (.cells cur 9 fz)
theorem DG.move{o:Zh}{c:Nat}{j:List Nat}{a:Zk}{n:Zl}(h:DG w c V a n)(l:Tn U w o)(t:∀b∈U,b∈V\/(c<=b/\NS w b))(u:∀b∈j,b∈V\/w.1.size<=b)(y:j[1]?=V[1]?:=by rfl):DG o c j a n:=by
 rcases h with h|⟨b,g,v,k,m,d,x⟩
 .exact .inl h
 .have q:b∉U:=λe=>by
   rcases t b e with e|⟨A,r⟩
   .exact m e
   .rcases d with d|⟨_,p,d⟩
    .omega
    .exact r p _ d
  have f:=l.block b k q;refine .inr ⟨b,g,v,Zr k l.size,λe=> ?_,(by rw[f];unfold Sn;rw[y];exact d),λi s z=>(cell?_of_block (a:=⟨b,g+i,none⟩) f).ah (x i s z)⟩;rcases u b e with e|e
  .exact m e
  .omega
theorem DG.low{c:Nat}{a:Zk}{d:Zl}(h:Af w c a d)(i:∀b∈V,c<=b)(m:c<=w.1.size)(l:Sn c V):DG w c V a d:=by
 rcases h with h|⟨b,g,j,f,k⟩
 .exact .inl h
 .exact .inr ⟨b,g,j,Yv,λe=>Dz (i b e),.inl ⟨f,l⟩,k⟩
theorem BS.move{e:Zh}{a:Nat}{c:List Nat}{g:Int}{d:Dj}{f:Lit->Option Value}(h:BS w a V g d f)(q:Tn U w e)(m:∀b∈U,b∈V\/(a<=b/\NS w b))(n:∀b∈c,b∈V\/w.1.size<=b)(o:c[1]?=V[1]?:=by rfl):BS e a c g d f:=by
 intro s p;rcases h s p with h|⟨u,r,t,i,j,k,l⟩
 .exact .inl h
 .exact .inr ⟨u,r,t,i,j,k,l.move q m n o⟩
structure DU (w:Zh) (base d m:Nat) (O P L:Value) (wd now given births:Int) (ks:List Kd) (ps:List Pd) (ls:List Ld):Prop where
 I:Dr w base d m O P L wd now given births ks ps ls
theorem DU.lo{f:Dj}{i:Dy}{g:Dv}(h:DU w b d m O P L j e c a f i g):b<=w.1.size:=by have:=h.I.bd;have:=h.I.box.lt;omega
theorem DU.K{p:Zh}{u:Int}{r:Dj}{t:Dy}{s:Dv}(h:DU w i d m O P L u l c a r t s)(q:Tn V w p)(o:∀b∈V,i<=b/\b∉vB d m O P L/\NS w b):DU p i d m O P L u l c a r t s:=by
 have v:=h.I.dj;have k:∀b∈vB d m O P L,p.1[b]?=w.1[b]?:=λb j=>q.block b (v b j) (λe=>(o b e).2.1 j);have⟨n,f,x,y,z⟩:=h.I.map;have h:=h.I
 exact⟨⟨Aa.same h.box (k d (by simp[vB])),⟨n,f,x,AN.same y (k m (by simp[vB])),z.move q (λb j=> .inr ⟨(o b j).1,(o b j).2.2⟩) (λb j=> .inl j)⟩,As h.ord (λg j=>k g (by simp[vB,j])),As h.cj (λg j=>k g (by simp[vB,j])),As h.dq (λg j=>k g (by simp[vB,j])),h.bd,h.bm,h.ap⟩⟩
theorem DU.A{i:Zh}{base:Nat}{b:Int}{e:Dj}{g:Dy}{f:Dv}(h:DU w base d m O P L j c b a e g f)(k:Zz w i):DU i base d m O P L j c b a e g f:=
 h.K (V:=[]) (Tn.of k) Yu
theorem YH{d m n:Nat}{O P L a:Option Nat}(h:(d::m::(O.toList++(P.toList++L.toList))).Nodup)(e:∀b∈d::m::(O.toList++(P.toList++L.toList)),b<n)(c:a=L\/∃g,a=some g/\n<=g):(d::m::(O.toList++(P.toList++a.toList))).Nodup:=by
 rcases c with rfl|⟨g,rfl,f⟩
 .exact h
 .cases O<;>cases P<;>cases L<;>simp_all<;>grind
theorem YI{d m n:Nat}{O P L a:Option Nat}(h:(d::m::(O.toList++(P.toList++L.toList))).Nodup)(e:∀b∈d::m::(O.toList++(P.toList++L.toList)),b<n)(c:a=P\/∃g,a=some g/\n<=g):(d::m::(O.toList++(a.toList++L.toList))).Nodup:=by
 rcases c with rfl|⟨g,rfl,f⟩
 .exact h
 .cases O<;>cases P<;>cases L<;>simp_all<;>grind
theorem Dp{d m:Nat}{O P L:Option Nat}(h:(d::m::(O.toList++(P.toList++L.toList))).Nodup):d≠m/\(∀g,O=some g->g≠d/\g≠m/\P≠some g/\L≠some g)/\(∀g,P=some g->g≠d/\g≠m/\L≠some g)/\(∀g,L=some g->g≠d/\g≠m):=by cases O<;>cases P<;>cases L<;>simp_all<;>grind
theorem DU.iu{w t:Zh}{k d m:Nat}{O P L:D4}{v C p a:Int}{z:Dj}{B:Dy}{I:Dv}(h:DU w k d m O P L v C p a z B I)(s:Tn (d::L.ownBlock.toList) w t){o:D4}{r:Dv}{l c:Int}(u:Aa t d [Zg v,.map (some m),Zg l,Zg c,Zg a,O,P,o])(H:t.ownsRow k 73 3 o r.length (Ab lC r))(i:o.ownBlock=L.ownBlock\/∃g,o.ownBlock=some g/\w.1.size<=g):DU t k d m O P o v l c a z B r:=by
 obtain⟨D,x,y,E⟩:=Dp h.I.ap;have⟨n,f,J,A,K⟩:=h.I.map;have F:∀b∈d::L.ownBlock.toList,b∈vB d m O P L:=by
  intro b i;unfold vB;rcases Bv.1 i with rfl|i
  .simp
  .simp only[Bv,A7];exact .inr (.inr (.inr (.inr i)))
 have G:∀b∈vB d m O P o,b∈vB d m O P L\/w.1.size<=b:=by
  intro b q;unfold vB at q |-;simp only[Bv,A7]at q |-;rcases q with e|e|e|e|e
  .exact .inl (.inl e)
  .exact .inl (.inr (.inl e))
  .exact .inl (.inr (.inr (.inl e)))
  .exact .inl (.inr (.inr (.inr (.inl e))))
  .rcases i with i|⟨g,j,M⟩
   .rw[i]at e;exact .inl (.inr (.inr (.inr (.inr e))))
   .rw[j]at e;simp at e;exact .inr (by omega)
 refine⟨⟨u,⟨n,f,J,AN.same A (s.block m A.lt (λe=> ?_)),K.move s (λb i=> .inl (F b i)) G⟩,As h.I.ord (λg j=>s.block g (Ac h.I.ord j).2 (λe=> ?_)),As h.I.cj (λg j=>s.block g (Ac h.I.cj j).2 (λe=> ?_)),H,h.I.bd,h.I.bm,YH h.I.ap h.I.dj i⟩⟩
 .rcases Bv.1 e with e|e
  .exact D e.symm
  .exact(E m (D2 e)).2 rfl
 .rcases Bv.1 e with e|e
  .exact(x g j).1 e
  .exact(x g j).2.2.2 (D2 e)
 .rcases Bv.1 e with e|e
  .exact(y g j).1 e
  .exact(y g j).2.2 (D2 e)
theorem DU.iw{w s:Zh}{k d m:Nat}{O P L:D4}{u p c a:Int}{y:Dj}{I:Dy}{z:Dv}(h:DU w k d m O P L u p c a y I z)(r:Tn (d::P.ownBlock.toList) w s){l:D4}{q:Dy}(t:Aa s d [Zg u,.map (some m),Zg p,Zg c,Zg a,O,l,L])(F:s.ownsRow k 71 2 l q.length (Ab pC q))(i:l.ownBlock=P.ownBlock\/∃g,l.ownBlock=some g/\w.1.size<=g):DU s k d m O l L u p c a y q z:=by
 obtain⟨B,v,x,C⟩:=Dp h.I.ap;have⟨n,f,G,A,H⟩:=h.I.map;have D:∀b∈d::P.ownBlock.toList,b∈vB d m O P L:=by
  intro b i;unfold vB;rcases Bv.1 i with rfl|i
  .simp
  .simp only[Bv,A7];exact .inr (.inr (.inr (.inl i)))
 have E:∀b∈vB d m O l L,b∈vB d m O P L\/w.1.size<=b:=by
  intro b o;unfold vB at o |-;simp only[Bv,A7]at o |-;rcases o with e|e|e|e|e
  .exact .inl (.inl e)
  .exact .inl (.inr (.inl e))
  .exact .inl (.inr (.inr (.inl e)))
  .rcases i with i|⟨g,j,J⟩
   .rw[i]at e;exact .inl (.inr (.inr (.inr (.inl e))))
   .rw[j]at e;simp at e;exact .inr (by omega)
  .exact .inl (.inr (.inr (.inr (.inr e))))
 refine⟨⟨t,⟨n,f,G,AN.same A (r.block m A.lt (λe=> ?_)),H.move r (λb i=> .inl (D b i)) E⟩,As h.I.ord (λg j=>r.block g (Ac h.I.ord j).2 (λe=> ?_)),F,As h.I.dq (λg j=>r.block g (Ac h.I.dq j).2 (λe=> ?_)),h.I.bd,h.I.bm,YI h.I.ap h.I.dj i⟩⟩
 .rcases Bv.1 e with e|e
  .exact B e.symm
  .exact(x m (D2 e)).2.1 rfl
 .rcases Bv.1 e with e|e
  .exact(v g j).1 e
  .exact(v g j).2.2.1 (D2 e)
 .rcases Bv.1 e with e|e
  .exact(C g j).1 e
  .exact(x g (D2 e)).2.2 j
theorem Fb{A:Type}(c:A->Zj)(a b:List A):Ab c (a++b)=Ab c a++Ab c b:=by unfold Ab;simp
theorem Hj{b:Int}(e:0<=a)(c:a<=1000000000)(f:0<=b)(d:b<=1000000000):IntKind.i64.wrap (a+b)=a+b:=by simp[IntKind.wrap,IntKind.bits,IntKind.signed];omega
theorem OM(w:Zh)(a:Nat)(v:D4)(b:Dv)(y:w.ownsRow a 73 3 v b.length (Ab lC b))(x:Ld)(t:b.length<=1000000)(k:a<=w.1.size)(l:TypeId):
 ∃g c f,(Builtin.append_ #[25,25] l #[v,Yz w.1.size 1 1]).run prog (w.alloc (.cells #[Zg x.G,C4 x.sum,Zg x.S] 73))=.ok (Yz g (b.length+1) c) f/\f.ownsRow a 73 3 (Yz g (b.length+1) c) (b++[x]).length (Ab lC (b++[x]))/\w.grownBy f v.ownBlock/\(v.ownBlock=some g\/g=w.1.size+1):=by
 have⟨A,s,n,o,p⟩:=info_parts Gm;have m:=Ah y (Ad.alloc (Zx) (.cells #[Zg x.G,C4 x.sum,Zg x.S] 73));have r:∀j u,(Ab lC [x])[j]?=some u->(w.alloc (.cells #[Zg x.G,C4 x.sum,Zg x.S] 73)).cell? ((⟨w.1.size,0,none⟩:Addr).add j)=some u:=by intro j u h;rw[A3,A0];exact(Aa.new w [Zg x.G,C4 x.sum,Zg x.S] 73 j u (by simpa [Ab,lC]using h)).1
 obtain⟨B,f,z,i,q,_,d⟩:=run_append_own_at (P:=prog) (w.alloc (.cells #[Zg x.G,C4 x.sum,Zg x.S] 73)) a 25 l 73 A _ 3 32 underlying25 s n o p rfl Yq v b.length (Ab lC b) m ⟨w.1.size,0,none⟩ 1 1 (Ab lC [x]) (by simp[Ab,lC]) r (by intro u h;simp[Ab,lC]at h;rcases h with rfl|rfl|rfl<;>rfl) Yo Yv Yt
 obtain⟨g,c,rfl,_,_⟩:=BF i (λe=>by subst e;rcases i.2 with⟨_,t⟩|⟨_,_,_,e,_⟩<;>first|omega|cases e);refine⟨g,c,f,z,?_,(grownBy_alloc w _ _).ah q,?_⟩
 .rw[Fb,Ak];exact i
 .rcases d with d|d
  .exact .inl d.symm
  .right;simpa [ownBlock]using d
theorem PH(n d m:Nat)(O P L:D4)(u j a c:Int)(v:Dj)(C:Dy)(i:Dv)(s:Zi)(f:Int)(w:Zh)(h:DU w n d m O P L u j a c v C i)(l:∀k∈v,(k.sum.size:Int)=u)(o:Am v s)(hl:i.length<200)(zH:0<=a)(zI:a<1000000000)(zC:0<=j)(zE:j<=1000000000)(zF:0<=f)(zG:f<=1000000000):
 D8 91 #[.pointer (some ⟨d,0,none⟩),C4 s,Zg f] w λe p=>e=C5 (Zg (a+1))/\∃U,DU p n d m O P U u j (a+1) c v C (i++[⟨a+1,s,j+f⟩])/\Tn (d::L.ownBlock.toList) w p:=by
 have HN:Hid _:=EI n d m O P L u j a c v C i s w h.I l o;have Z:Hid (DU w n d m O P L u j a c v C i):=h;have zK:((i.length:Int)==200)=false:=by simp;omega
 have zJ:(a==1000000000)=false:=by simp;omega
 clear h l o;go_enter func91,ntmps91;go_wp2_with fail;refine HN.Ai ?_;rintro e z ⟨rfl,G⟩;have q:=Z.A G;have⟨r,p,zB⟩:=Aq q.I.dq;subst zB;obtain⟨V,_⟩:=q.I.box 2 _ rfl;obtain⟨W,f3⟩:=q.I.box 3 _ rfl;obtain⟨Y,_⟩:=q.I.box 7 _ rfl;have⟨X,I⟩:=D7 z d 3 (Zg (a+1));have A:Tn [d] z X:=by rw[I];exact AP _ _ _ _
 have x:Aa X d [Zg u,.map (some m),Zg j,Zg (a+1),Zg c,O,P,C1 r i p]:=by rw[I];exact q.I.box.set 3 _
 have F:∀g,(C1 r i p).ownBlock=some g->g≠d:=λg B=>((Dp q.I.ap).2.2.2 g B).1;have S:X.ownsRow n 73 3 (C1 r i p) i.length (Ab lC i):=As q.I.dq (λg B=>A.block g (Ac q.I.dq B).2 (by simp;exact F g B));have Q:d<X.1.size:=x.lt;have J:n<=X.1.size:=Zm q.lo A.size;obtain⟨o,l,t,y,T,H,R⟩:=OM X.drew n _ i (Ah S (Ad.drew)) ⟨a+1,s,j+f⟩ (by omega) J 25
 dsimp only at y;replace y:(Builtin.append_ #[25,25] 25 #[C1 r i p,C3 (some ⟨X.1.size,0,none⟩) 1 1]).run prog (X.alloc (.cells #[Zg (a+1),C4 s,Zg (j+f)] 73)).drew=.ok (C3 (some ⟨o,0,none⟩) (i.length+1) l) t:=y;have zM:IntKind.i64.wrap (j+f)=j+f:=Hj zC zE zF zG
 have N:Below X.1.size X (X.drew.alloc (.cells #[Zg (a+1),C4 s,Zg (j+f)] 73)):=Ad.drew.alloc (Zx) _;have M:=x.A N;have b:Hid _:=I;have H1:Hid (DU z n d m O P (C1 r i p) u j a c v C i):=q;have k:Hid (Zz w z):=G;have E:Aa t d [Zg u,.map (some m),Zg j,Zg (a+1),Zg c,O,P,C1 r i p]:=Aa.same x (H.block d (D2 Q) (λe=>F d e.symm rfl))
 have D:Hid (t.ownsRow n 73 3 (C3 (some ⟨o,0,none⟩) (i.length+1) l) (i++[(⟨a+1,s,j+f⟩:Ld)]).length (Ab lC (i++[(⟨a+1,s,j+f⟩:Ld)]))/\X.drew.grownBy t (C1 r i p).ownBlock/\((C1 r i p).ownBlock=some o\/o=X.drew.1.size+1)):=⟨T,H,R⟩;have h:Hid (Aa t d [Zg u,.map (some m),Zg j,Zg (a+1),Zg c,O,P,C1 r i p]):=E;have K:Hid (Tn [d] z X):=A
 have zA:Hid (d<X.1.size):=Q;clear I q G HN Z A S T H R;go_upto_region 5 with fail;rw[<-b.o];clear b V W Y f3;obtain⟨V,W,Y⟩:=Aa.c3 x 2 3 7;obtain⟨q,A,G⟩:=Aa.c3 M 2 3 7;obtain⟨H,I⟩:=E 7 _ rfl;clear x M E N
 go_region_law (first
  |(refine Bt (by rfl) (.tmp 36) (.tmp 49) 25 25 (by rfl) (by rfl) (by rfl) y ?_))
 all_goals
  clear y V W Y q A G;have q:=h.set 7 (C3 (some ⟨o,0,none⟩) (i.length+1) l);have N:=(q 3 _ rfl).1;have z7:X.1.size<=t.1.size:=by have:=D.2.1.size;simpa using this
  have y:Hid (Aa (t.setCell (Zd d 7) (C3 (some ⟨o,0,none⟩) (i.length+1) l)) d [Zg u,.map (some m),Zg j,Zg (a+1),Zg c,O,P,C3 (some ⟨o,0,none⟩) (i.length+1) l]):=q;clear q
  have q:∃U,DU (t.setCell (Zd d 7) (C3 (some ⟨o,0,none⟩) (i.length+1) l)) n d m O P U u j (a+1) c v C (i++[(⟨a+1,s,j+f⟩:Ld)])/\Tn (d::(C1 r i p).ownBlock.toList) w (t.setCell (Zd d 7) (C3 (some ⟨o,0,none⟩) (i.length+1) l)):=by
   have x:Tn (d::(C1 r i p).ownBlock.toList) z (t.setCell (Zd d 7) (C3 (some ⟨o,0,none⟩) (i.length+1) l)):=
    ((K.aj (by simp)).ah ((Tn.of (Ad.drew)).ah ((EJ D.2.1).aj (λb A=>mem_cons_of_mem _ A)))).ah ((AP t d 7 _).aj (by simp))
   have E:∀g,(C3 (some ⟨o,0,none⟩) (i.length+1) l).ownBlock=some g->g≠d:=λg B=>by
    obtain rfl:o=g:=by simpa [ownBlock]using B
    rcases D.2.2 with e|e
    .exact F o e
    .have G:o=X.1.size+1:=e;have M:=zA.o;omega
   have A:(C3 (some ⟨o,0,none⟩) (i.length+1) l).ownBlock=(C1 r i p).ownBlock\/∃g,(C3 (some ⟨o,0,none⟩) (i.length+1) l).ownBlock=some g/\z.1.size<=g:=by
    rcases D.2.2 with e|e
    .exact .inl e.symm
    .exact .inr ⟨o,rfl,by have G:o=X.1.size+1:=e;have:=K.size;omega⟩
   exact⟨_,H1.iu x y (BH D.1 E 7 _) A,(Tn.of k).ah x⟩
  have B:Hid _:=q;clear q;go_wp2;go_ret;exact⟨rfl,B⟩
theorem Lm{A:Type}{c:A->Zj}{e:TypeId}(j:∀x,(c x).length=n){a:Nat}{b:List A}(h:w.ownsRow a e n (Yz g b.length d) b.length (Ab c b))(i:Nat)(f:i<=b.length):w.ownsRow a e n (Yz g i d) i (Ab c (b.take i)):=by
 refine⟨by rw[Bq j,Ct];congr 1;omega,?_⟩;rcases h.2 with⟨e,_⟩|⟨s,l,k,e,q,r,t,m,o,p⟩
 .cases e
 .cases e;refine .inr ⟨g,d,k,rfl,q,r,Yv,m,o,?_⟩;rw[<-FR j b i f,<-p,take_take];congr 1;exact(Nat.min_eq_left (Nat.mul_le_mul_right n f)).symm
theorem YJ(w:Zh):(zeroValue 71).run prog w=.ok (.agg #[Zc,Zc]) w:=Yr
theorem Oo(w:Zh)(i:TypeId)(b o c:Nat)(g:∀j,j<2->(w.cell? (Zd b (o+j))).isSome=true)(h:∀j,j<2->w.frozen? ⟨b,o+j,none⟩=false):
 (Builtin.clear_ #[24] i #[C3 (some ⟨b,o,none⟩) 1 c]).run prog w=.ok (.tuple #[]) (w.setCells b o [Zc,Zc]):=by
 have e:(Builtin.zeroCells (agg #[Zc,Zc]).cells 1).toList=[Zc,Zc]:=Yr
 have a:=run_storeCells_cells (P:=prog) b o [Zc,Zc] 0 w (D2 g) (D2 h) (by intro v d;simp at d;rcases d with rfl|rfl<;>rfl);simp only[Nat.add_zero]at a;have f:=YJ;simp[Builtin.clear_,run_underlying underlying24,f,e,a]
theorem Oq(g b i:Nat)(a:Dy)(w:Zh)(f:Nat)(p:w.ownsRow f 71 2 (Yz g a.length b) a.length (Ab pC a))(W:a.length<=600)(V:i<a.length):
 D8 120 #[Yz g a.length b,Zg i,Zg ((i:Int)+1)] w λe c=>e=C5 (Yz g (a.length -1) b)/\c.ownsRow f 71 2 (Yz g (a.length -1) b) (a.length -1) (Ab pC (a.eraseIdx i))/\w.grownBy c (some g):=by
 obtain⟨I,n,Q,C,R⟩:=info_parts GP;have m:a.length<=b/\b<=maxLen:=by
  rcases p.2 with⟨e,_⟩|⟨E,l,y,e,H,v,s,t,F,G⟩
  .cases e
  .cases e;exact⟨s,t⟩
 obtain⟨J,z⟩:=m;unfold maxLen at z;have hcut:=Lm Ce p i Yv;have⟨A,U,d⟩:∃A,(if b=i+1 then some (⟨g,0,none⟩:Addr)else some ⟨g,(i+1) *2,none⟩)=some A/\∀j u,(Ab pC (a.drop (i+1)))[j]?=some u->w.drew.cell? (A.add j)=some u:=by
  by_cases h:b=i+1
  .refine⟨⟨g,0,none⟩,by rw[if_pos h],λj u c=> ?_⟩;rw[drop_of_length_le Yv]at c;simp[Ab]at c
  .refine⟨⟨g,(i+1) *2,none⟩,by rw[if_neg h],λj u c=> ?_⟩;rw[A3];rw[<-EE Ce a (i+1) Yv,getElem?_drop]at c;have B:=(Zw c).1;rw[Bq Ce]at B;exact(p.cellAt _ Yv).ah c
 obtain⟨q,x,c,k⟩:=run_append_fits (P:=prog) w.drew f 24 24 71 I 2 underlying24 n C g i b (Ab pC (a.take i)) hcut A (a.length -(i+1)) (b -(i+1)) (Ab pC (a.drop (i+1))) (by rw[Bq Ce,length_drop]) d (JD _) Yv;rw[<-Bn,show i+(a.length -(i+1))=a.length -1 by omega]at c;rw[show i+(a.length -(i+1))=a.length -1 by omega]at x;have o:=(eraseIdx_eq_take_drop_succ a i).symm;rw[o]at c
 have r:=Yw (Zn c k);clear d c hcut o;go_enter func120,ntmps120;have K:¬((i:Int)==(i:Int)+1)=true:=Yt
 have L:i<=b:=Yv
 have M:(0:Int)<=(i:Int)+1:=Yv
 have N:(i:Int)+1<=(a.length:Int):=Yv
 have O:((i:Int)+1).toNat=i+1:=Yv
 go_upto_region 5 with fail
 go_region_law (first
  |(refine Bt Yp (.tmp 22) (.tmp 25) 24 24 Yp Yp (by simp[Act.eval,Act.put]) x ?_))
 all_goals
  have o:∀j,j<2->(q.cell? (Zd g ((a.length -1) *2+j))).isSome=true/\q.frozen? ⟨g,(a.length -1) *2+j,none⟩=false:=λj d=>by
   have⟨c,k⟩:=r.o;rcases c.2 with⟨e,_⟩|⟨E,l,y,e,H,v,s,t,F,G⟩
   .cases e
   .cases e;constructor
    .simp only[cell?,v];rw[Cf Yv];rfl
    .exact c.frozenAt _
  have D:=Oo q 0 g ((a.length -1) *2) (b -(a.length -1)) (λj d=>(o j d).1) (λj d=>(o j d).2);have d:a.length -(a.length -1)=1:=Yv
  have S:¬b=a.length -1:=Yv
  have T:a.length -1<=a.length:=Yv
  go_wp2;go_ret;have⟨c,k⟩:=r.o;exact⟨rfl,He _ _ _ c (Zx),Aj (Dn k) (Ci g _ _ _)⟩
theorem NN(w:Zh):(zeroValue 73).run prog w=.ok (.agg #[Ze,Zc,Ze]) w:=Yr
theorem Me(w:Zh)(i:TypeId)(b o c:Nat)(g:∀j,j<3->(w.cell? (Zd b (o+j))).isSome=true)(h:∀j,j<3->w.frozen? ⟨b,o+j,none⟩=false):
 (Builtin.clear_ #[25] i #[C3 (some ⟨b,o,none⟩) 1 c]).run prog w=.ok (.tuple #[]) (w.setCells b o [Ze,Zc,Ze]):=by
 have e:(Builtin.zeroCells (agg #[Ze,Zc,Ze]).cells 1).toList=[Ze,Zc,Ze]:=Yr
 have a:=run_storeCells_cells (P:=prog) b o [Ze,Zc,Ze] 0 w (D2 g) (D2 h) (by intro v d;simp at d;rcases d with rfl|rfl|rfl<;>rfl);simp only[Nat.add_zero]at a;have f:=NN;simp[Builtin.clear_,run_underlying underlying25,f,e,a]
theorem Mf(g b i:Nat)(a:Dv)(w:Zh)(f:Nat)(p:w.ownsRow f 73 3 (Yz g a.length b) a.length (Ab lC a))(W:a.length<=600)(V:i<a.length):
 D8 124 #[Yz g a.length b,Zg i,Zg ((i:Int)+1)] w λe c=>e=C5 (Yz g (a.length -1) b)/\c.ownsRow f 73 3 (Yz g (a.length -1) b) (a.length -1) (Ab lC (a.eraseIdx i))/\w.grownBy c (some g):=by
 obtain⟨I,n,Q,C,R⟩:=info_parts Gm;have m:a.length<=b/\b<=maxLen:=by
  rcases p.2 with⟨e,_⟩|⟨E,l,y,e,H,v,s,t,F,G⟩
  .cases e
  .cases e;exact⟨s,t⟩
 obtain⟨J,z⟩:=m;unfold maxLen at z;have hcut:=Lm CR p i Yv;have⟨A,U,d⟩:∃A,(if b=i+1 then some (⟨g,0,none⟩:Addr)else some ⟨g,(i+1) *3,none⟩)=some A/\∀j u,(Ab lC (a.drop (i+1)))[j]?=some u->w.drew.cell? (A.add j)=some u:=by
  by_cases h:b=i+1
  .refine⟨⟨g,0,none⟩,by rw[if_pos h],λj u c=> ?_⟩;rw[drop_of_length_le Yv]at c;simp[Ab]at c
  .refine⟨⟨g,(i+1) *3,none⟩,by rw[if_neg h],λj u c=> ?_⟩;rw[A3];rw[<-EE CR a (i+1) Yv,getElem?_drop]at c;have B:=(Zw c).1;rw[Bq CR]at B;exact(p.cellAt _ Yv).ah c
 obtain⟨q,x,c,k⟩:=run_append_fits (P:=prog) w.drew f 25 25 73 I 3 underlying25 n C g i b (Ab lC (a.take i)) hcut A (a.length -(i+1)) (b -(i+1)) (Ab lC (a.drop (i+1))) (by rw[Bq CR,length_drop]) d (Vx _) Yv;rw[<-Bn,show i+(a.length -(i+1))=a.length -1 by omega]at c;rw[show i+(a.length -(i+1))=a.length -1 by omega]at x;have o:=(eraseIdx_eq_take_drop_succ a i).symm;rw[o]at c
 have r:=Yw (Zn c k);clear d c hcut o;go_enter func124,ntmps124;have K:¬((i:Int)==(i:Int)+1)=true:=Yt
 have L:i<=b:=Yv
 have M:(0:Int)<=(i:Int)+1:=Yv
 have N:(i:Int)+1<=(a.length:Int):=Yv
 have O:((i:Int)+1).toNat=i+1:=Yv
 go_upto_region 5 with fail
 go_region_law (first
  |(refine Bt Yp (.tmp 22) (.tmp 25) 25 25 Yp Yp (by simp[Act.eval,Act.put]) x ?_))
 all_goals
  have o:∀j,j<3->(q.cell? (Zd g ((a.length -1) *3+j))).isSome=true/\q.frozen? ⟨g,(a.length -1) *3+j,none⟩=false:=λj d=>by
   have⟨c,k⟩:=r.o;rcases c.2 with⟨e,_⟩|⟨E,l,y,e,H,v,s,t,F,G⟩
   .cases e
   .cases e;constructor
    .simp only[cell?,v];rw[Cf Yv];rfl
    .exact c.frozenAt _
  have D:=Me q 0 g ((a.length -1) *3) (b -(a.length -1)) (λj d=>(o j d).1) (λj d=>(o j d).2);have d:a.length -(a.length -1)=1:=Yv
  have S:¬b=a.length -1:=Yv
  have T:a.length -1<=a.length:=Yv
  go_wp2;go_ret;have⟨c,k⟩:=r.o;exact⟨rfl,He _ _ _ c (Zx),Aj (Dn k) (Ci g _ _ _)⟩
theorem SD(B q c a:Int)(T:D4)(p l:Zk)(A z:Nat)(d:Dy)(g:Dv)(s:Zi)(w:Zh)(r:AU w w.1.size p d)(o:AS w w.1.size l g)(Q:d.length<=1000)(P:g.length<=1000):
 D8 97 #[.agg #[Zg B,Zg q,Zg c,Zg a,T,C3 p d.length A,C3 l g.length z],C4 s] w λe f=>Ay ((∃p∈d,p.sum=s)\/∃l∈g,l.sum=s) w f e:=by
 have J:=Yw r;have H:=Yw o;have G:=Aw.new w B q c a T (C1 p d A) (C1 l g z) 27;have n:Below w.1.size w (w.alloc (.cells #[Zg B,Zg q,Zg c,Zg a,T,C1 p d A,C1 l g z] 27)):=Zy;have⟨W,f⟩:=D6 w #[Zg B,Zg q,Zg c,Zg a,T,C1 p d A,C1 l g z] 27;rw[<-f]at G n;have m:=Yw f;clear r o f;obtain⟨f,o,r,t,u,S,U,V⟩:=G
 clear f o r t u;go_enter func97,ntmps97;go_upto_region 1 with fail;rw[<-m.o];clear m;go_wp2
 go_loop [5] (λi=>∃k:Nat,k<=d.length/\i=Zg k/\Hid (∀j x,j<k->d[j]?=some x->¬x.sum=s)) (λi=>d.length -(intOf i).toNat)
 case atStart=>exact⟨0,Az _,rfl,(λj x h=>Yv)⟩
 case round=>
  obtain⟨k,O,rfl,f⟩:=hrel;by_cases hlt:k<d.length
  .obtain⟨b,K,E,N,t⟩:=(AU.A J n).at hlt;subst E;have o:Hid (d[k]?=some d[k]):=Zv hlt;obtain⟨L,M⟩:=t k _ o;clear t;generalize d[k]=x at *
   by_cases h:x.sum=s
   .have F:(x.sum.toList==s.toList)=true:=by rw[h];simp
    have D:=Yw h;clear h;go_wp2;refine bodyPost_ret (results_tmp rfl _ _ _) rfl ?_;exact Ay.yes (.inl ⟨x,Zs o,D⟩) n
   .have F:(x.sum.toList==s.toList)=false:=Br h;have C:Hid (∀j y,j<k+1->d[j]?=some y->¬y.sum=s):=by
     intro j y u m;rcases Bz j k with r|r
     .exact f j y r m
     .obtain rfl:j=k:=Yv
      rw[o.o]at m;cases m;exact h
    clear h;go_wp2;exact⟨⟨k+1,Yv,Yn,C⟩,Ys⟩
  .have I:Hid (¬∃p∈d,p.sum=s):=by rintro⟨y,m,v⟩;obtain⟨j,u,rfl⟩:=getElem_of_mem m;exact f j _ Yv (Zv u) v
   clear f;go_wp2
   go_loop [6] (λi=>∃k:Nat,k<=g.length/\i=Zg k/\Hid (∀j x,j<k->g[j]?=some x->¬x.sum=s)) (λi=>g.length -(intOf i).toNat)
   case atStart=>exact⟨0,Az _,rfl,(λj x h=>Yv)⟩
   case round=>
    obtain⟨k,O,rfl,f⟩:=hrel;by_cases hlt:k<g.length
    .obtain⟨b,K,E,N,t⟩:=(AS.A H n).at hlt;subst E;have o:Hid (g[k]?=some g[k]):=Zv hlt;obtain⟨L,M,R⟩:=t k _ o;clear t;generalize g[k]=x at *
     by_cases h:x.sum=s
     .have F:(x.sum.toList==s.toList)=true:=by rw[h];simp
      have D:=Yw h;clear h;go_wp2;refine bodyPost_ret (results_tmp rfl _ _ _) rfl ?_;exact Ay.yes (.inr ⟨x,Zs o,D⟩) n
     .have F:(x.sum.toList==s.toList)=false:=Br h;have C:Hid (∀j y,j<k+1->g[j]?=some y->¬y.sum=s):=by
       intro j y u m;rcases Bz j k with r|r
       .exact f j y r m
       .obtain rfl:j=k:=Yv
        rw[o.o]at m;cases m;exact h
      clear h;go_wp2;exact⟨⟨k+1,Yv,Yn,C⟩,Ys⟩
    .go_wp2;refine bodyPost_ret (results_tmp rfl _ _ _) rfl ?_;refine Ay.no (λe=> ?_) n;rcases e with e|⟨y,m,v⟩
     .exact absurd e I
     .obtain⟨j,u,rfl⟩:=getElem_of_mem m;exact absurd v (f j _ Yv (Zv u))
