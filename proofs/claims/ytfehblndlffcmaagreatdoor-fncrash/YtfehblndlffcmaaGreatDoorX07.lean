import Derived.Test.YtfehblndlffcmaaGreatDoorX02
import Derived.Orders
import Derived.Laws.BytesArg
set_option maxRecDepth 100000
set_option maxHeartbeats 16000000
open Option renaming some->an,none->ba
open Bool renaming true->bg,false->bq
open Go.RowKit renaming Below->bs
open Go.Obj renaming cells->ca
open Go.Value renaming agg->ct,pointer->ee
open Go.Ground renaming data->ed
open List renaming length->eh
open Go.World renaming cell?->ek,ownsRow->eo,grownBy->ep,setCell->ev
namespace Go.Proofs.YtfehblndlffcmaaGreatDoor
open ChangeShapes WideShapes ChangeAt RowKit _root_.Go.Proofs.Tryz List World Value
variable{a:Zk}{b g n c k i id last:Nat}{f:Zl}{w e:Zh}{p:Int}{P:Program}
theorem GM{b:Zk}(c d:Nat){g:Zl}(o:Ab w w.1.size a f)(n:Ab w w.1.size b g)(O:eh f<=1048576)(I:eh g<=1048576):
 D8 25 #[C3 a (eh f) c,C3 b (eh g) d] w λe j=>Av (f=g) w j e:=by
 by_cases hlen:eh f=eh g
 case neg=>
  have v:((eh f:Int)==(eh g:Int))=bq:=Yt;have l:((eh f:Int) !=(eh g:Int))=bg:=Yt;delta D8;go_in;go_wp2;go_ret;exact Av.no (λh=>hlen N0) Ae
 have v:((eh f:Int) !=(eh g:Int))=bq:=Yt;have q:=Yw hlen;have E:Hid (∀X,Zz w X->Ab X w.1.size a f/\Ab X w.1.size b g):=λX j=>⟨o.A j,n.A j⟩;clear hlen o n;delta D8;go_in;go_wp2;go_loopw [5] (λi wr=>∃k:Nat,k<=eh f/\i=Zg k/\Hid (f.take k=g.take k/\Zz w wr)) (λi _=>eh f -(intOf i).toNat)
 case atStart=>exact⟨0,Aq _,rfl,⟨Yu,Ae⟩⟩
 obtain⟨k,N,rfl,m⟩:=hrel;have⟨o,n⟩:=E wr m.2;by_cases hlt:k<eh f
 case neg=>
  obtain rfl:k=eh f:=Yv;have l:=m.1;have p:=Yw m.2;rw[Zt (Zx),Zt (Dl q.o)]at l;have D:=Yw l;clear o n l;go_wp2;go_ret;exact Av.yes D p
 have j:k<eh g:=gG;obtain⟨⟨R,S,F,A,p⟩,P,Q,G,z,l⟩:=o.at hlt,n.at j;subst F G;obtain⟨L,M,K,J,t,u⟩:=p k _ (Zv hlt),l k _ (Zv j),Zr A m.2.size,Zr z m.2.size,Yw (Zu hlt),Yw (Zu j);have HN:Hid (∀x y,f[k]?=an x->g[k]?=an y->x≠y->f≠g):=λx y B r s e=>by subst e;rw[B]at r;exact s (A8 r)
 have r:=Yw (Zv hlt);have s:=Yw (Zv j);have H:(k:Int)<eh g:=Yv;clear p l o n;generalize f[k]=x at *
 generalize g[k]=y at *
 have p:=Yw m.2;by_cases hxy:x=y
 .subst hxy;have B:(x.toList !=x.toList)=bq:=Yu;go_wp2
  go_region
  all_goals go_wp2
  all_goals exact⟨⟨k+1,Yv,Yn,⟨by rw[t.o,u.o,m.1],p.drew⟩⟩,Ys⟩
 have B:=BJ hxy;have C:(x.toList !=y.toList)=bg:=gA;go_wp2
 go_region
 all_goals go_wp2
 all_goals go_ret
 all_goals exact Av.no (λh=>HN x y r s hxy h) p.drew
theorem SZ(t u:Zi)(a b:Zk)(c d:Nat)(f g:Zl)(w:Zh)(n:Ab w w.1.size a f)(m:Ab w w.1.size b g)(q:eh f<=1048576)(o:eh g<=1048576):
 D8 36 #[ct #[C4 t,C3 a (eh f) c],ct #[C4 u,C3 b (eh g) d]] w λe i=>Av (t=u/\f=g) w i e:=by
 have⟨W,i⟩:=Ag ((w.alloc (ca #[C4 t,C2 a f c] 76)).alloc (ca #[C4 u,C2 b g d] 76));have k:=(AQ i).1;obtain⟨s,v⟩:=Aa.c2 (AQ i).2.2.1 0 1;obtain⟨⟨x,y⟩,p,j,l⟩:=Aa.c2 (AQ i).2.2.2 0 1,Yw (GM c d (n.X k) (m.X k) q o),Yw i,Yw k;clear i n m k;by_cases ht:t=u
 .subst ht;have m:(t.toList==t.toList)=bg:=Yu;delta D8;go_in;go_upto_region 1 with fail;rw[<-j.o];clear j;go_wp2_with (go_at_call 25;refine p.Aj ?_;rintro e r ⟨n,rfl,k,i⟩);go_ret;exact⟨n,Yu,D2 k,l.ag (i.ai l.size)⟩
 have m:=BJ ht;delta D8;go_in;go_upto_region 1 with fail;rw[<-j.o];clear j;go_wp2;go_ret;exact Av.no (λh=>by first|exact h|exact ht h.1) l
theorem NR{b:Zk}(c d:Nat){h:Zl}(p:Ab w w.1.size a f)(o:Ab w w.1.size b h)(R:a=ba->eh f=0/\c=0)(S:b=ba->eh h=0/\d=0)(hl:eh f<=1048576)(Z:eh h<=1048576):
 D8 21 #[ct #[C3 a (eh f) c,C3 b (eh h) d]] w λe j=>∃g i,e=C5 (Yz g (eh (f++h)) i)/\eo j w.1.size 9 1 (Yz g (eh (f++h)) i) (eh (f++h)) ((f++h).map string)/\Zz w j:=by
 obtain⟨⟨H,G,v,x,y⟩,W,i⟩:=info_parts Ck,D6 w #[C2 a f c,C2 b h d] 25;obtain⟨n,Y,j⟩:=(Ax i).1,(Ax i).2.1,(Ax i).2.2;have z:bs W.1.size W (W.alloc (ca #[] 9)):=gB;have J:eo (W.alloc (ca #[] 9)).drew (w.1.size+1) 9 1 (Yz (w.1.size+1) 0 0) 0 (([]:Zl).map string):=by have F:=ownsRow_lit (base:=w.1.size+1) (e:=9) (size:=1) W #[] 0 Yv Yo rfl;rw[Y]at F;exact F
 have K:=(Ab.A p (n.ag (z.drew.ai n.size))).bi;have l:=Aa.A j z;obtain⟨T,U⟩:=Aa.c2 j 0 1;obtain⟨⟨V,X⟩,m,E⟩:=Aa.c2 l 0 1,Yw i,Yw (Zn l (n.ag (z.ai n.size)));have O:Hid (Ab w w.1.size b h):=o;clear i j l p o;delta D8;go_in;go_upto_region 1 with fail;rw[<-m.o];clear m
 go_region_law (first
  |(refine Az (W.alloc (ca #[] 9)).drew rfl (.tmp 3) (.tmp 5) 23 rfl (w.1.size+1) 9 H Zc 16 underlying23 G v x y rfl (w.1.size+1) 0 0 [] rfl J a (eh f) c f rfl rfl R K Yo Yv Ym ?_;intro B o C l j p r;simp only[Ay,nil_append]at l;have D:Aa C w.1.size [C2 a f c,C2 b h d]:=(Aa.same E.1 (j.block _ Ym Ym));have m:bs w.1.size w C:=(E.2.drew.grown j Ym (λk A=>by cases A;omega));have P:=(D 0 _ rfl).1;have Q:=(D 1 _ rfl).1;have r6:=(Ab.A O m).bi;have M:=j.size;simp at M)
  |(refine Az C rfl (.tmp 6) (.tmp 8) 23 rfl (w.1.size+1) 9 H Zc 16 underlying23 G v x y rfl B (eh f) o f rfl l b (eh h) d h rfl rfl S r6 Yo Yv Yv ?_;intro I i L u t q s))
 all_goals
  have e:w.1.size+1<=B:=(l.lt B rfl).1;have N:Hid (eo L w.1.size 9 1 (Yz I (eh f+eh h) i) (eh f+eh h) ((f++h).map string)/\Zz w L):=⟨u.ai Yv,m.grown t m.size (λk A=>by cases A;omega)⟩;clear l j p r D m P Q r6 M u t q s J K T U V X;go_wp2;go_ret;rw[Am];exact⟨I,i,rfl,N⟩
structure AB (w:Zh) (b:Nat) (a:Zk) (n c:Nat) (p:Int):Prop where
 c0:ek w (Zd b 0)=an (.slice a n c)
 c1:ek w (Zd b 1)=an (Zg p)
 f1:w.frozen? ⟨b,1,ba⟩=bq
 lt:b<w.1.size
 n2:n<=2000
 bytes:n=0\/∃q off,a=an ⟨q,off,ba⟩/\q<b/\∀j,j<n->∃x:Int,ek w (Zd q (off+j))=an (.int .u8 x)/\0<=x/\x<256
theorem AB.next(h:AB w b a n c p)(d:Int):AB (ev w (Zd b 1) (Zg d)) b a n c d:=by
 obtain⟨m,o,r,g,i,f⟩:=h;refine⟨by simp[go_sem,m],by simp[go_sem,o],by simpa [go_sem]using r,D2 g,i,?_⟩;rcases f with h|⟨q,l,u,k,z⟩
 .exact .inl h
 refine .inr ⟨q,l,u,k,λj y=> ?_⟩;have⟨x,v,s,t⟩:=z j y;exact⟨x,by rw[cell?_setCell_other _ _ _ _ (by intro e;injection e;omega)];exact v,s,t⟩
theorem AB.drew(h:AB w b a n c p):AB w.drew b a n c p:=⟨h.c0,h.c1,h.f1,h.lt,h.n2,h.bytes⟩
theorem AB.drewN(h:AB w b a n c p)(k:Nat):AB (w.drewN k) b a n c p:=⟨h.c0,h.c1,h.f1,h.lt,h.n2,h.bytes⟩
theorem QX{a:Zh}{r:Option Nat}(h:ep w a r)(k:Nat):ep w (a.drewN k) r:=⟨h.os,h.tape,h.output,h.size,h.block⟩
theorem WN{f:Zh}(a:ep w e (an b))(c:ep e f (an g))(i:w.1.size<=g):ep w f (an b):=
 ⟨c.os.ag a.os,c.tape.ag a.tape,c.output.ag a.output,Zm a.size c.size,λk d h=>(c.block k (Zr d a.size) Yt).ag (a.block k d h)⟩
theorem PH(w:Zh)(g p:Nat)(v:D4):ep w (ev w (Zd g p) v) (an g):=
 ⟨rfl,rfl,rfl,Yu,λi _ a=>Below.heap_setCell _ _ _ _ (λe=>a (by rw[e]))⟩
theorem AB.grown(h:AB w b a n c p)(d:ep w e (an g))(u:b<g):AB e b a n c p:=by
 have v:=d.size;have s:=h.lt;refine⟨d.cell h.c0 Yt,d.cell h.c1 Yt,(d.frozen_far ⟨b,1,ba⟩ s Yt).ag h.f1,Yv,h.n2,?_⟩;rcases h.bytes with h|⟨q,i,m,f,t⟩
 .exact .inl h
 refine .inr ⟨q,i,m,f,λj r=> ?_⟩;have⟨x,o,k,l⟩:=t j r;exact⟨x,d.cell o Yt,k,l⟩
theorem AB.A{g:Zh}(h:AB w b a n c p)(d:Zz w g):AB g b a n c p:=by
 have e:=h.lt;refine⟨(d.cell (p:=⟨b,0,ba⟩) e).ag h.c0,(d.cell (p:=⟨b,1,ba⟩) e).ag h.c1,(d.frozen (p:=⟨b,1,ba⟩) e).ag h.f1,Zr e d.size,h.n2,?_⟩;rcases h.bytes with h|⟨q,f,m,i,s⟩
 .exact .inl h
 refine .inr ⟨q,f,m,i,λj r=> ?_⟩;have⟨x,o,k,l⟩:=s j r;exact⟨x,(d.cell (p:=⟨q,f+j,ba⟩) Yt).ag o,k,l⟩
theorem Cl{a:Int}(b:0<=a)(c:a<=2000000000):IntKind.i64.wrap a=a:=F0
theorem WO(a b:Nat)(d:a<2^30)(e:b<2^30):∃z:Nat,bits .xor .i64 (a:Int) (b:Int)=(z:Int):=by refine⟨a^^^b,?_⟩;have f:a^^^b<2^30:=Nat.xor_lt_two_pow d e;have c:(BitVec.ofInt 64 (a:Int)^^^BitVec.ofInt 64 (b:Int)).toNat=a^^^b:=gG;show IntKind.i64.wrap ((BitVec.ofInt 64 (a:Int)^^^BitVec.ofInt 64 (b:Int)).toNat:Int)=_;rw[c];exact Cl Yv Yv
theorem AE(m:Int)(h:AB w b a n c p)(hp:0<=p)(J:p<=1000000)(hm:1<=m)(G:m<=2000000):
 D8 16 #[Yy b,Zg m] w λe d=>∃r:Int,e=C5 (Zg r)/\0<=r/\r<m/\AB d b a n c (p+1)/\ep w d (an b):=by
 have HN:Hid (AB (ev w (Zd b 1) (Zg (p+1))) b a n c (p+1)/\ep w (ev w (Zd b 1) (Zg (p+1))) (an b)):=⟨h.next _,PH _ _ _ _⟩;obtain⟨P,Q,T,F,H,o⟩:=h;by_cases hn:n=0
 .subst hn;delta D8;go_in;go_wp2;go_ret;exact⟨0,rfl,Yv,Yv,HN.1,HN.2⟩
 obtain⟨q,O,D,K,i⟩:=o.resolve_left hn;subst D;have I:((n:Int)==0)=bq:=Yt;delta D8;go_in;by_cases hk:p<n
 .obtain⟨x,l,A,B⟩:=i p.toNat Yv;obtain⟨k,rfl⟩:∃k:Nat,p=k:=⟨p.toNat,Yv⟩;simp only[Int.toNat_natCast]at l;go_wp2;go_ret;exact⟨_,rfl,Int.emod_nonneg _ Yv,Int.emod_lt_of_pos _ Yv,HN.1,HN.2⟩
 obtain⟨k,rfl⟩:∃k:Nat,p=k:=⟨p.toNat,Yv⟩;have u:k%n<n:=Nat.mod_lt _ Yv;have v:(k *7+3)%n<n:=Nat.mod_lt _ Yv;obtain⟨⟨x,l,A,B⟩,y,hd,L,M⟩:=i _ u,i _ v;have R:(k:Int)%(n:Int)=((k%n:Nat):Int):=Yu;have S:((k:Int) *7+3)%(n:Int)=(((k *7+3)%n:Nat):Int):=Yu;have t:k/n<=k:=Nat.div_le_self _ _;have C:(k:Int)/(n:Int)=((k/n:Nat):Int):=Yu;have s:k/n<=1000000:=Yv;have⟨d,f⟩:=Ag (k/n);rw[<-f]at C t s;clear f;have f:IntKind.i64.wrap ((k:Int) *7)=(k:Int) *7:=Cl Yv Yv;have U:IntKind.i64.wrap ((k:Int) *7+3)=(k:Int) *7+3:=Cl Yv Yv;have V:IntKind.i64.wrap (x *131)=x *131:=Cl Yv Yv;have W:IntKind.i64.wrap (y *1117)=y *1117:=Cl Yv Yv;have Y:IntKind.i64.wrap (x *131+y *1117)=x *131+y *1117:=Cl Yv Yv;have Z:IntKind.i64.wrap ((k:Int) *29)=(k:Int) *29:=Cl Yv Yv;have e:IntKind.i64.wrap (x *131+y *1117+(k:Int) *29)=x *131+y *1117+(k:Int) *29:=Cl Yv Yv;have r:IntKind.i64.wrap ((d:Int) *53)=(d:Int) *53:=Cl Yv Yv;have g9:IntKind.i64.wrap (x *131+y *1117+(k:Int) *29+(d:Int) *53)=x *131+y *1117+(k:Int) *29+(d:Int) *53:=Cl Yv Yv;generalize k%n=i1 at *
 generalize (k *7+3)%n=i2 at *
 go_wp2;go_quiet (fail);have⟨X,j⟩:∃X:Nat,x *131+y *1117+(k:Int) *29+(d:Int) *53=X:=⟨(x *131+y *1117+(k:Int) *29+(d:Int) *53).toNat,Yv⟩;have g:X<2^30:=Yv;have f:(X:Int)/64=((X/64:Nat):Int):=Yu;have⟨z,E⟩:=WO X (X/64) g Yv;rw[<-f,<-j]at E;have N:(z:Int).tmod m=(z:Int)%m:=gG;clear f j g X;go_wp2;go_ret;exact⟨(z:Int)%m,Yp,Int.emod_nonneg _ Yv,Int.emod_lt_of_pos _ Yv,AB.drewN HN.1 _,QX HN.2 _⟩
theorem Ta(a:Zk)(n c:Nat)(w:Zh)(t:n<=maxLen)(m:n=0\/∃q b,a=an ⟨q,b,ba⟩/\q<w.1.size/\∀j,j<n->∃x:Int,ek w (Zd q (b+j))=an (.int .u8 x)/\0<=x/\x<256)(u:n<=c):
 D8 14 #[C3 a n c] w λe g=>∃d f,e=C5 (Yy w.1.size)/\AB g w.1.size a d f 0/\Zz w g:=by
 have g:∀o,Zz w (w.alloc o):=gB;unfold maxLen at t;have l:∀d f,d<=n->d<=2000->AB (w.alloc (ca #[C3 a d f,Ze] 85)) w.1.size a d f 0:=λd f d d=>by
  refine⟨by simp[go_sem],by simp[go_sem],by simp[go_sem],Yu,d,?_⟩;rcases m with h|⟨q,b,d,f,i⟩
  .exact .inl Yv
  refine .inr ⟨q,b,d,f,λj k=> ?_⟩;have⟨x,r,s⟩:=i j Yv;exact⟨x,((g _).cell (p:=⟨q,b+j,ba⟩) f).ag r,s⟩
 have k:=Yw l;clear l;by_cases h:n<=2000
 .have l:decide ((2000:Int)<(n:Int))=bq:=Yt;delta D8;go_in;go_wp2;go_ret;exact⟨n,c,rfl,k.o n c (Zx) h,g _⟩
 have l:decide ((2000:Int)<(n:Int))=bg:=Yt;have⟨q,b,d,f,i⟩:=m.resolve_left Yv;subst d;clear i;delta D8;go_in;go_wp2;go_ret;exact⟨2000,_,rfl,k.o 2000 _ Yv (Zx),g _⟩
theorem KL{a:Int}(b:0<=a)(c:a<256):IntKind.u8.wrap a=a:=F0
theorem Ge(l:List Int):(strOfNums l).size=eh l:=by unfold strOfNums;simp[ByteArray.size]
theorem UU:(prog.info? 5).map (λi=>(i.zero,i.size,i.bytes))=an (an (.int .u8 0),1,1):=Yr
structure GF (w w':Zh) (b:Nat) (a:Zk) (n c:Nat) (p:Int) (k:Int):Prop where
 st:∃p',AB w' b a n c p'/\p<=p'/\p'<=p+k
 gr:ep w w' (an b)
theorem Tb(h:AB w b a n c p)(hp:0<=p)(zE:p<=900000):
 D8 114 #[Yy b] w λe d=>∃s,e=C5 (C4 s)/\s.size<=16/\GF w d b a n c p 10:=by
 have⟨i0,K,Q,R,S⟩:=info_parts UU;delta D8;go_in;go_wp2_with fail;refine(AE 9 h hp Yv Yv Yv).ai ?_;rintro e M ⟨r,rfl,r0,r1,I,G⟩;have C:Hid (GF w M b a n c p 10):=⟨⟨_,I,Yv,Yv⟩,G⟩;by_cases q0:r=0
 .have zG:(r==0)=bg:=Yt;go_wp2;go_ret;exact⟨_,rfl,Yq,C⟩
 by_cases q1:r=1
 .have zH:(r==1)=bg:=Yt;go_wp2;go_ret;exact⟨_,rfl,Yq,C⟩
 by_cases q2:r=2
 .have zI:(r==2)=bg:=Yt;go_wp2;go_ret;exact⟨_,rfl,Yq,C⟩
 by_cases q3:r=3
 .have zJ:(r==3)=bg:=Yt;go_wp2;go_ret;exact⟨_,rfl,Yq,C⟩
 go_wp2_with fail;refine(AE 4 I Yv Yv Yv Yv).ai ?_;rintro e d ⟨k,rfl,k0,k1,J,g2⟩;have D:=Ai G g2;have W:=D.size;have zA:=J.lt;have x:bs d.1.size d (d.alloc (ca #[] 5)):=gB;have B:=Yw (J.A x);have A:=Yw (Ai D (Af (an b) x));have t:Hid (eo (d.alloc (ca #[] 5)) d.1.size 5 1 (Yz d.1.size 0 0) 0 (([]:List Int).map (int .u8))):=ownsRow_lit d #[] 0 (Zx) Yo rfl;go_wp2;go_loopw [4,5] (λv i wr=>∃(j g q:Nat) (f:List Int),(j:Int)<=k+1/\eh f=j/\i=Zg j/\v=Yz g j q/\Hid (eo wr d.1.size 5 1 (Yz g j q) j (f.map (int .u8)))/\Hid (AB wr b a n c (p+1+1+j))/\Hid (ep w wr (an b))) (λ_ i _=>(k+1).toNat -(intOf i).toNat)
 case atStart=>exact⟨0,_,_,[],Yv,rfl,rfl,rfl,t,D2 B,A⟩
 obtain⟨j,g,q,f,hj,E,rfl,rfl,t,B,A⟩:=hrel;have lg:=t.lt g rfl;by_cases hlt:(j:Int)<=k
 .have hd:decide ((j:Int)<=k)=bg:=Yt
  go_wp2_with fail;refine(AE 6 B Yv Yv Yv Yv).ai ?_;rintro e l ⟨y,rfl,y0,y1,v,F⟩;have wy:IntKind.i64.wrap (97+y)=97+y:=Cl Yv Yv;have wu:IntKind.u8.wrap (97+y)=97+y:=KL Yv Yv;have Z:=Yw (ownsRow.kept t F (.inr Fo));have zF:=F.size;go_wp2_with (first
   |(at_builtin;refine wpList_append_lies _ rfl _ _ 22 rfl d.1.size 5 i0 (.int .u8 0) 1 1 underlying22 K Q R S rfl Yq _ j (f.map (int .u8)) rfl ?d0 ⟨l.1.size,0,ba⟩ 1 1 [.int .u8 (97+y)] rfl rfl ?d1 ?d2 Yq ?d3 ?d4 ?d5 _ rfl ?_)
   |go_in)
  case d0=>exact ownsRow.alloc Z _
  case d1=>exact cell_one_new l _ 5
  case d2=>intro u L;simp at L;subst L;rfl
  case d3=>unfold maxLen;omega
  case d4=>omega
  case d5=>simp;omega
  intro H m z zC O U V;have x:bs l.1.size l (l.alloc (ca #[.int .u8 (97+y)] 5)):=gB;have o:ep (l.alloc (ca #[.int .u8 (97+y)] 5)) z (an g):=by simpa [ownBlock]using O
  have Y:Hid (AB z b a n c (p+1+1+((j+1:Nat):Int))):=by have:=(v.A x).grown o Yv;rw[show p+1+1+((j+1:Nat):Int)=p+1+1+(j:Int)+1 by omega];exact this
  have N:ep (l.alloc (ca #[.int .u8 (97+y)] 5)) z (an g):=o;have X:Hid (ep w z (an b)):=WN (Ai A (Ai F (Af _ x))) N Yv;have s:Hid (eo z d.1.size 5 1 (Yz H (j+1) m) (j+1) ((f++[97+y]).map (int .u8))):=gD;go_wp2;exact⟨⟨j+1,H,m,f++[97+y],Yv,by simp[E],Yn,Yu,s,Y,X⟩,Ys⟩
 have hd:decide ((j:Int)<=k)=bq:=Yt;have zB:=run_convert_bytes_arg (P:=prog) wr 22 5 underlying22 underlying5 g 0 j q f E (λi K=>by
  rw[Ay,t.cellAt i Yt,getElem?_map,Zv Yv];simp[getD,Zv (show i<eh f by omega)]) 9 underlying9
 have i:=Ge f;generalize strOfNums f=T at *
 go_wp2;go_ret;exact⟨T,rfl,Yv,⟨_,B,Yv,Yv⟩,A⟩
theorem Tc(s:Zi)(n:Nat)(w:Zh)(d:1<=s.size)(l:s.size *n<=100000):
 D8 115 #[C4 s,Zg n] w λe a=>∃T:Zi,e=C5 (C4 T)/\T.size=s.size *n/\a=w:=by
 delta D8;go_in;go_wp2
 go_loop [0,1,5] (λu m o=>∃(S T:Zi) (k:Nat),u=C4 S/\m=Zg k/\o=C4 T/\1<=S.size/\T.size+S.size *k=s.size *n) (λ_ m _=>(intOf m).toNat)
 case atStart=>exact⟨s,⟨#[]⟩,n,rfl,rfl,rfl,d,by show 0+_=_;omega⟩
 obtain⟨S,T,k,rfl,rfl,rfl,hS,hT⟩:=hrel;by_cases hk:0<k
 .have j:decide ((0:Int)<(k:Int))=bg:=Yt;have g:S.size<=S.size *k:=Nat.le_mul_of_pos_right _ hk;have h:=Nat.div_add_mod k 2;have i:k<=100000:=Dl (Nat.le_mul_of_pos_left k hS);rcases Nat.mod_two_eq_zero_or_one k with c|c
  .have f:((k:Int)%2==1)=bq:=Yt;have b:Hid (T.size+(S++S).size *(k/2)=s.size *n):=gH;have a:1<=(S++S).size:=Yt;go_wp2;exact⟨⟨S++S,T,k/2,rfl,Yu,rfl,a,b⟩,Ys⟩
  have f:((k:Int)%2==1)=bg:=Yt;have b:Hid ((T++S).size+(S++S).size *(k/2)=s.size *n):=gH;have a:1<=(S++S).size:=Yt;go_wp2;exact⟨⟨S++S,T++S,k/2,rfl,Yu,rfl,a,b⟩,Ys⟩
 obtain rfl:k=0:=Yv;go_wp2;go_ret;exact⟨T,rfl,D2 hT,rfl⟩
def Bj(L:Nat->Bool)(i:Nat):Nat->Bool:=fun j=>if j=i then bg else L j
theorem Kq{k:Region.Mode}{b:Array Oper}{a:Array Bool}:i∈Region.ready k b a↔i<b.size/\a.getD i bg=bq/\∃o,b[i]?=an o/\∀e∈o.after,Region.binds k e=bg->a.getD e.on bq=bg:=by
 unfold Region.ready;rw[B6,mem_range];constructor
 .rintro⟨g,c⟩;rw[Bool.and_eq_true,Bool.not_eq_true']at c;have f:b[i]?=an b[i]:=gA;refine⟨g,c.1,_,f,λe j h=> ?_⟩;have d:=c.2;rw[f]at d;simp only[Option.map_some,Option.getD_some,Array.all_eq_true_iff_forall_mem]at d;have l:=d e j;rw[h]at l;simpa using l
 rintro⟨g,c,o,f,d⟩;refine⟨g,?_⟩;rw[c,f];simp only[Option.map_some,Option.getD_some,Bool.not_false,Bool.true_and,Array.all_eq_true_iff_forall_mem];intro e j;cases h:Region.binds k e with
 |false=>rfl
 |true=>simpa using d e j h
theorem RK:∀(l:List Bool) (i:Nat),l[i]?=an bq->eh ((l.set i bg).filter (! ·))+1=eh (l.filter (! ·))
 |[],i,h=>by simp at h
 |x::l,0,h=>by simp at h;simp[h]
 |x::l,i+1,h=>by have:=RK l i (D2 h);cases x<;>simp at this |-<;>omega
theorem Aah{c:Array Oper}{Q:Exit->Act->Zh->Prop}(I:(Nat->Bool)->Act->Zh->Prop)(B:∀L a w i o,I L a w->c[i]?=an o->L i=bq->(∀e∈o.after,Region.binds .any e=bg->L e.on=bg)->wpOp P c Q i (I (Bj L i)) a w)(u:∀L a w,I L a w->(∀i,i<c.size->L i=bg)->Q .normal a w)(z:∀i o,c[i]?=an o->∀e∈o.after,Region.binds .any e=bg->e.on<i):
 ∀(d:Nat) (b:Array Bool) (a:Act) (w:Zh),b.size=c.size->eh (b.toList.filter (! ·))<=d->I (λj=>b.getD j bq) a w->wpAny P .any c Q d b a w:=by
 have p:∀b:Array Bool,b.size=c.size->Region.ready .any c b=[]->∀i,i<c.size->b.getD i bq=bg:=by
  intro b t s i;induction i using Nat.strongRecOn with
  |_ i ih=>
   intro n;cases hv:b.getD i bq with
   |true=>rfl
   |false=>
    have g:i∈Region.ready .any c b:=by
     refine Kq.2 ⟨n,?_,_,Ci n,λe k f=> ?_⟩
     .rw[Array.getD_eq_getD_getElem?,Ci Yv]at hv |-;simpa using hv
     have r:=z i _ (Ci n) e k f;exact gG
    rw[s]at g;cases g
 intro d;induction d with
 |zero=>
  intro b a w t A m;have r:∀i,i<c.size->b.getD i bq=bg:=by
   intro i n;cases hv:b.getD i bq with
   |true=>rfl
   |false=>exfalso;have k:(b.toList.filter (! ·))=[]:=gA;rw[filter_eq_nil_iff]at k;rw[Array.getD_eq_getD_getElem?,Ci Yv]at hv;have:=k (b[i]'(by omega)) Yu;simp at hv;simp[hv]at this
  refine⟨?_,u _ a w m r⟩;rw[eq_nil_iff_forall_not_mem];intro i g;have⟨k,l,_⟩:=Kq.1 g;have f:=r i k;rw[Array.getD_eq_getD_getElem?,Ci Yv]at l f;simp at l f;rw[l]at f;cases f
 |succ d ih=>
  intro b a w t A m;refine⟨λs=>u _ a w m (p b t s),λi g=> ?_⟩;have⟨k,l,o,f,x⟩:=Kq.1 g;have q:i<b.size:=Yv;have y:b[i]=bq:=gA;refine wpOp_mono (λv C h=>ih _ v C Yt ?_ ?_) (B _ a w i o m f ?_ x)
  .have v:eh ((b.setIfInBounds i bg).toList.filter (! ·))+1=eh (b.toList.filter (! ·)):=(by rw[Array.toList_setIfInBounds];exact RK _ i gA);omega
  .have e:(λj=>(b.setIfInBounds i bg).getD j bq)=Bj (λj=>b.getD j bq) i:=by
    funext j
    unfold Bj;by_cases hj:j=i
    .subst hj;simp[q]
    simp[hj,Array.getD_eq_getD_getElem?,Array.getElem?_setIfInBounds_ne (Ne.symm hj)]
   rw[e];exact h
  show b.getD i bq=bq;rw[Array.getD_eq_getD_getElem?,Ci q];simpa using y
theorem Td{b:Array Oper}{Q:Exit->Act->Zh->Prop}{a:Act}(g:P.follows .mixedOrders=bg)(I:(Nat->Bool)->Act->Zh->Prop)(d:∀i o,b[i]?=an o->∀e∈o.after,Region.binds .any e=bg->e.on<i)(c:I (λ_=>bq) a w.drew)(h:∀L a w i o,I L a w->b[i]?=an o->L i=bq->(∀e∈o.after,Region.binds .any e=bg->L e.on=bg)->wpOp P b Q i (I (Bj L i)) a w)(f:∀L a w,I L a w->(∀i,i<b.size->L i=bg)->Q .normal a w):(Code.region k b bg).wp P Q a w:=by
 refine wp_region_any g (Aah I h f d b.size _ a _ Yu Yu ?_);have e:(λj=>(Array.replicate b.size bq).getD j bq)=λ_=>bq:=by
  funext j
  rw[Array.getD_eq_getD_getElem?];by_cases hj:j<b.size
  .simp[hj]
  simp[hj]
 rw[e];exact c
theorem PI(L:Nat->Bool)(i:Nat):∀n,i<n->L i=bq->eh ((range n).filter (Bj L i))=eh ((range n).filter L)+1
 |0,h,_=>absurd h (Nat.not_lt_zero _)
 |n+1,h,hL=>by
  rw[range_succ,filter_append,filter_append,Am,Am];by_cases hn:i=n
  .subst hn;have a:(range i).filter (Bj L i)=(range i).filter L:=filter_congr (λx b=>by have:=mem_range.1 b;unfold Bj;rw[if_neg Yv]);rw[a];simp[Bj,hL]
  have a:=PI L i n Yv hL;have b:Bj L i n=L n:=by unfold Bj;rw[if_neg (Ne.symm hn)]
  rw[a];simp only[filter_cons,b,filter_nil];omega
def Im(ops:Array Oper):Bool:=(List.range ops.size).all fun i=>((ops[i]?).map (·.after.all fun e=>decide (e.on<i)|| !Region.binds .any e)).getD bg
theorem Lg{a:Array Oper}(h:Im a=bg):∀i o,a[i]?=an o->∀e∈o.after,Region.binds .any e=bg->e.on<i:=by intro i o d e g f;unfold Im at h;rw[all_eq_true]at h;have b:=h i (mem_range.2 (A6.1 d).1);rw[d]at b;simp only[Option.map_some,Option.getD_some,Array.all_eq_true_iff_forall_mem]at b;have c:=b e g;rw[f]at c;simpa using c
def Io(ops:Array Oper)(i j:Nat):Bool:=((ops[i]?).map (·.after.any fun e=>e.on==j&&Region.binds .any e)).getD bq
theorem IF{a:Array Oper}{j:Nat}{o:Oper}(c:a[i]?=an o)(h:Io a i j=bg):∃e∈o.after,e.on=j/\Region.binds .any e=bg:=by unfold Io at h;rw[c]at h;simp only[Option.map_some,Option.getD_some,Array.any_eq_true']at h;obtain⟨e,d,b⟩:=h;rw[Bool.and_eq_true]at b;exact gG
def Na(ops:Array Oper)(last:Nat):Bool:=(List.range last).all fun i=>Io ops last i||(List.range last).any fun m=>Io ops last m&&Io ops m i
def Gf(e:Edge):Bool:=match e.ground with
 |ed=>Region.binds .any e
 |_=>bq
theorem Mo{e:Edge}(h:Gf e=bg):Region.binds .any e=bg:=by
 unfold Gf at h;split at h
 .exact h
 cases h
def YH(ops:Array Oper)(last:Nat)(kl:List (Nat×Nat)):Bool:=kl.all fun p=>(List.range last).all fun m=>m==p.1||(p.1<last&&Io ops p.1 m)||((ops[m]?).map (·.after.all fun e=>e.on !=p.2|| !Gf e)).getD bg
theorem JR{b:Array Oper}{Q:Exit->Act->Zh->Prop}(last:Nat)(W:P.follows .mixedOrders=bg)(zH:b.size=last+1)(Z:Im b=bg)(V:Na b last=bg)(x:List (Nat×Nat))(D:YH b last x=bg)(F:(Nat->Value)->Act)(M:Nat->Value)(J:(Nat->Bool)->Zh->Prop)(T:Nat->Zh->Value->Prop)(E:Nat->Zh->Zh->Prop)(hE:∀j i w q v,j≠i->(j,i)∉x->Io b i j=bq->E j w q->T i w v->T i q v)(hF:∀i o d v,i<last->b[i]?=an o->(F d).put o.dst v=F (λj=>if j=i then v else d j))(h0:J (λ_=>bq) w.drew)(hs:∀i o L d w,i<last->b[i]?=an o->L i=bq->(∀e∈o.after,Region.binds .any e=bg->L e.on=bg)->J L w->(∀e∈o.after,Gf e=bg->T e.on w (d e.on))->∀K:Act->Zh->Prop,Hid (∀v q,T i q v->E i w q->J (Bj L i) q->K ((F d).put o.dst v) q)->if Region.wanted o (yielded b (F d).tmps)=bg then Oper.wp P o (F d) w K Q else K ((F d).put o.dst undef) w)(hf:∀o L d w,b[last]?=an o->(∀i,i<last->L i=bg)->J L w->(∀i,i<last->(∀j,(j,i)∉x)->T i w (d i))->∀K:Act->Zh->Prop,Hid (∀a w,Q .normal a w->K a w)->if Region.wanted o (yielded b (F d).tmps)=bg then Oper.wp P o (F d) w K Q else K ((F d).put o.dst undef) w):
 (Code.region id b bg).wp P Q (F M) w:=by
 refine Td W (λL a w=>if L last=bg then (∀i,i<last->L i=bg)/\Q .normal a w else ∃d,a=F d/\J L w/\(∀j o,j<last->b[j]?=an o->L j=bg->∀e∈o.after,Region.binds .any e=bg->L e.on=bg)/\∀i,i<last->L i=bg->(∀j,(j,i)∈x->L j=bq)->T i w (d i)) (Lg Z) ?_ ?_ ?_
 .rw[if_neg Yu];exact⟨M,rfl,h0,λj o _ _ h=>by simp at h,λi _ h=>by simp at h⟩
 .intro L a w i o r p U u;have hi:i<b.size:=gG;by_cases hil:i=last
  .subst hil;rw[if_neg Yt]at r;obtain⟨d,rfl,R,C,hT⟩:=r;have k:∀j,j<i->L j=bg:=by
    intro j g;unfold Na at V;rw[all_eq_true]at V;have c:=V j (mem_range.2 g);rw[Bool.or_eq_true]at c;rcases c with c|c
    .obtain⟨e,n,O,l⟩:=IF p c;rw[<-O];exact u e n l
    obtain⟨m,W,s⟩:=any_eq_true.1 c;rw[Bool.and_eq_true]at s;have⟨e,n,O,l⟩:=IF p s.1;have zF:=mem_range.1 W;have I:b[m]?=an b[m]:=gA;have⟨N,y,e2,zC⟩:=IF I s.2;rw[<-e2];exact C m _ zF I (by rw[<-O];exact u e n l) N y zC
   refine wpOp_step p (λK S=>hf o L d w p k R (λj g hn=>hT j g (k j g) (λX z=>absurd z (hn X))) K (λa w h=>S a w ?_));show if Bj L i i=bg then _ else _
   rw[if_pos (by unfold Bj;rw[if_pos rfl])];exact⟨λj g=>by unfold Bj;rw[if_neg Yv];exact k j g,h⟩
  have A:i<last:=Yv;have zB:L last=bq:=gG;rw[if_neg Yt]at r;obtain⟨d,rfl,R,C,hT⟩:=r;have G:∀j,j<last->L j=bg->Io b j i=bq:=λj g f=>by
   cases c:Io b j i with
   |false=>rfl
   |true=>have H:b[j]?=an b[j]:=gA;have⟨N,y,s,h4⟩:=IF H c;have t:=C j _ g H f N y h4;rw[s,U]at t;cases t
  refine wpOp_step p (λK S=>hs i o L d w A p U u R (λe n l=>hT e.on (Dl (Lg Z i o p e n (Mo l))) (u e n (Mo l)) (λj g=> ?_)) K (λv q hv hw zA=>S _ q ?_))
  .unfold YH at D;have c:=all_eq_true.1 (all_eq_true.1 D _ g) i (mem_range.2 A);rw[p]at c;simp only[Option.map_some,Option.getD_some,Bool.or_eq_true,beq_iff_eq,Array.all_eq_true_iff_forall_mem]at c;rcases c with(c|c)|c
   .rw[<-c];exact U
   .rw[Bool.and_eq_true]at c;cases f:L j with
    |false=>rfl
    |true=>have zE:j<last:=gA;have t:=G j zE f;rw[c.2]at t;cases t
   have:=c e n;rw[l]at this;simp at this
  show if Bj L i last=bg then _ else _
  rw[if_neg (by unfold Bj;rw[if_neg (Ne.symm hil),zB];simp),hF i o d v A p];refine⟨_,rfl,zA,λj o' g B f e n l=> ?_,λj g f Y=> ?_⟩
  .have c:L e.on=bg:=by
    by_cases hji:j=i
    .subst hji;rw[p]at B;cases B;exact u e n l
    unfold Bj at f;rw[if_neg hji]at f;exact C j o' g B f e n l
   unfold Bj;rw[c];simp
  by_cases hji:j=i
  .subst hji;rw[if_pos rfl];exact hv
  rw[if_neg hji];have zG:(i,j)∉x:=λh=>by have:=Y i h;unfold Bj at this;rw[if_pos rfl]at this;cases this
  unfold Bj at f;rw[if_neg hji]at f;refine hE i j w q _ (λe=>hji e.symm) zG (G j g f) hw (hT j g f (λX z=> ?_));have:=Y X z;unfold Bj at this;split at this
  .cases this
  exact this
 intro L a w r k;rw[if_pos (k last Yv)]at r;exact r.2
def Kr(last:Nat)(J:Nat->Zh->Prop):(Nat->Bool)->Zh->Prop:=fun L w=>J (eh ((List.range last).filter L)) w
theorem YI{J:Nat->Zh->Prop}(h:J 0 w):Kr last J (λ_=>bq) w:=by unfold Kr;rw[show(range last).filter (λ_=>bq)=[]from by simp];exact h
theorem UW{L:Nat->Bool}(c:i<last)(b:L i=bq):eh ((range last).filter L)<last:=by have d:=PI L i last c b;have a:eh ((range last).filter (Bj L i))<=eh (range last):=length_filter_le _ _;rw[length_range]at a;omega
theorem YJ{J:Nat->Zh->Prop}{L:Nat->Bool}(b:i<last)(a:L i=bq)(h:J (eh ((range last).filter L)+1) w):Kr last J (Bj L i) w:=by unfold Kr;rw[PI L i last b a];exact h
theorem RL{J:Nat->Zh->Prop}{L:Nat->Bool}(a:∀i,i<last->L i=bg)(h:Kr last J L w):J last w:=by have b:(range last).filter L=range last:=filter_eq_self.2 (λx c=>a x (mem_range.1 c));unfold Kr at h;rw[b,length_range]at h;exact h
theorem PJ{c:Array Oper}{Q:Exit->Act->Zh->Prop}{G:Nat}(last:Nat)(C:P.follows .mixedOrders=bg)(q:c.size=last+1)(m:Im c=bg)(B:Na c last=bg)(F:(Nat->Value)->Act)(g:Nat->Value)(J:Nat->Zh->Prop)(T:Nat->Zh->Value->Prop)(E:Zh->Zh->Prop)(x:∀i w d v,E w d->T i w v->T i d v)(y:∀i o b v,i<last->c[i]?=an o->(F b).put o.dst v=F (λj=>if j=i then v else b j))(r:J 0 w.drew)(D:∀i o k b w,i<last->c[i]?=an o->k<last->J k w->(∀e∈o.after,Gf e=bg->T e.on w (b e.on))->∀K:Act->Zh->Prop,Hid (∀v d,T i d v->E w d->J (k+1) d->K ((F b).put o.dst v) d)->if Region.wanted o (yielded c (F b).tmps)=bg then Oper.wp P o (F b) w K Q else K ((F b).put o.dst undef) w)(A:∀o b w,c[last]?=an o->J last w->(∀i,i<last->T i w (b i))->∀K:Act->Zh->Prop,Hid (∀a w,Q .normal a w->K a w)->if Region.wanted o (yielded c (F b).tmps)=bg then Oper.wp P o (F b) w K Q else K ((F b).put o.dst undef) w):
 (Code.region G c bg).wp P Q (F g) w:=
 JR last C q m B [] rfl F g (Kr last J) T (λ_=>E) (λ_ i w d v _ _ _ f l=>x i w d v f l) y (YI r) (λi o L b w f n p _ l hT K z=>D i o _ b w f n (UW f p) l hT K (λv d s t u=>z.out v d s t (YJ f p u))) (λo L b w n m l hT=>A o b w n (RL m l) (λi f=>hT i f (λ_ h=>by cases h)))
def AY(a:Act):List Nat->(Nat->Value)->Nat->Act
 |[],_,_=>a
 |d::ds,xs,k=>AY (a.put (an d) (xs k)) ds xs (k+1)
theorem Aai(a:Act)(d:Nat)(v u:D4):(a.put (an d) v).put (an d) u=a.put (an d) u:=by simp[Act.put]
theorem PK:∀(ds:List Nat) (a:Act) (xs:Nat->Value) (k d:Nat) (v:D4),d∉ds->(AY a ds xs k).put (an d) v=AY (a.put (an d) v) ds xs k
 |[],_,_,_,_,_,_=>rfl
 |e::ds,a,xs,k,d,v,h=>by have b:d≠e:=λx=>h Yt;show(AY (a.put (an e) (xs k)) ds xs (k+1)).put (an d) v=AY ((a.put (an d) v).put (an e) (xs k)) ds xs (k+1);rw[PK ds _ xs (k+1) d v (λx=>h (mem_cons_of_mem _ x)),Act.put_comm a (xs k) v Yt]
theorem Jw:∀(ds:List Nat) (a:Act) (xs ys:Nat->Value) (k:Nat),(∀j,k<=j->xs j=ys j)->AY a ds xs k=AY a ds ys k
 |[],_,_,_,_,_=>rfl
 |d::ds,a,xs,ys,k,h=>by show AY (a.put (an d) (xs k)) ds xs (k+1)=AY (a.put (an d) (ys k)) ds ys (k+1);rw[h k (Zx)];exact Jw ds _ xs ys (k+1) (λj b=>h j Yv)
theorem RM:∀(ds:List Nat) (a:Act) (xs:Nat->Value) (k i d:Nat) (v:D4),ds.Nodup->ds[i]?=an d->(AY a ds xs k).put (an d) v=AY a ds (λj=>if j=k+i then v else xs j) k
 |[],_,_,_,_,_,_,_,h=>by simp at h
 |e::ds,a,xs,k,0,d,v,hn,h=>by
  obtain rfl:e=d:=D2 h
  show(AY (a.put (an e) (xs k)) ds xs (k+1)).put (an e) v=AY (a.put (an e) (if k=k+0 then v else xs k)) ds _ (k+1);rw[PK ds _ xs (k+1) e v (nodup_cons.1 hn).1,Aai,if_pos (Nat.add_zero k).symm];exact Jw ds _ _ _ (k+1) (λj b=>by rw[if_neg Yv])
 |e::ds,a,xs,k,i+1,d,v,hn,h=>by show(AY (a.put (an e) (xs k)) ds xs (k+1)).put (an d) v=AY (a.put (an e) (if k=k+(i+1)then v else xs k)) ds _ (k+1);rw[RM ds _ xs (k+1) i d v (nodup_cons.1 hn).2 gA,if_neg Yv];exact gG
theorem WQ(a:Act)(d:Nat):a.put (an d) (a.tmps.getD d undef)=a:=by
 obtain⟨t,b⟩:=a;show Act.mk (t.setIfInBounds d (t.getD d undef)) b=_;congr 1;apply Array.ext
 .simp
 intro i e c;rw[Array.getElem_setIfInBounds];split
 .rename_i h
  subst h;simp[c]
 rfl
theorem NT:∀(ds:List Nat) (a:Act) (k:Nat),∃b,AY a ds b k=a
 |[],a,_=>⟨λ_=>undef,rfl⟩
 |d::ds,a,k=>by have⟨b,h⟩:=NT ds a (k+1);refine⟨λj=>if j=k then a.tmps.getD d undef else b j,?_⟩;show AY (a.put (an d) (if k=k then _ else _)) ds _ (k+1)=a;rw[if_pos rfl,WQ];exact(Jw ds a _ b (k+1) (λj c=>if_neg Yv)).ag h
theorem PL:∀(ds:List Nat) (a:Act) (xs:Nat->Value) (k i:Nat) (v:D4),k+eh ds<=i->AY a ds (λj=>if j=i then v else xs j) k=AY a ds xs k
 |[],_,_,_,_,_,_=>rfl
 |d::ds,a,xs,k,i,v,h=>by rw[length_cons]at h;show AY (a.put (an d) (if k=i then v else xs k)) ds _ (k+1)=AY (a.put (an d) (xs k)) ds xs (k+1);rw[if_neg Yv];exact PL ds _ xs (k+1) i v Yv
def WR(ops:Array Oper)(ds:List Nat)(last:Nat):Bool:=(List.range last).all fun i=>((ops[i]?).map (fun o=>decide (o.dst=ds[i]?))).getD bq
def Acm(ops:Array Oper)(ds:List Nat):Bool:=WR ops ds (eh ds)
theorem Ip{b:Array Oper}{Q:Exit->Act->Zh->Prop}{a:Act}(d:List Nat)(last:Nat)(x:Oper)(z:b[last]?=an x)(H:P.follows .mixedOrders=bg)(A:b.size=last+1)(q:Im b=bg)(G:Na b last=bg)(h:WR b d last=bg)(I:d.Nodup)(m:b.all (·.guard.isNone)=bg)(l:List (Nat×Nat))(y:YH b last l=bg)(J:(Nat->Bool)->Zh->Prop)(T:Nat->Zh->Value->Prop)(E:Nat->Zh->Zh->Prop)(D:∀j i w f v,j≠i->(j,i)∉l->Io b i j=bq->E j w f->T i w v->T i f v)(C:J (λ_=>bq) w.drew)(M:∀i o L c w,i<last->b[i]?=an o->L i=bq->(∀e∈o.after,Region.binds .any e=bg->L e.on=bg)->J L w->(∀e∈o.after,Gf e=bg->T e.on w (c e.on))->∀K:Act->Zh->Prop,Hid (∀v f,T i f v->E i w f->J (Bj L i) f->K ((AY a d c 0).put o.dst v) f)->Oper.wp P o (AY a d c 0) w K Q)(F:∀L c w,(∀i,i<last->L i=bg)->J L w->(∀i,i<last->(∀j,(j,i)∉l)->T i w (c i))->∀K:Act->Zh->Prop,Hid (∀a w,Q .normal a w->K a w)->Oper.wp P x (AY a d c 0) w K Q):
 (Code.region id b bg).wp P Q a w:=by
 have u:∀i o t,b[i]?=an o->Region.wanted o t=bg:=λi o t f=>by rw[Array.all_eq_true_iff_forall_mem]at m;have g:=m o (Array.mem_of_getElem? f);simp[Region.wanted,Option.isNone_iff_eq_none.1 g]
 have⟨B,k⟩:=NT d a 0;have:=JR (id:=id) (w:=w) (Q:=Q) last H A q G l y (λc=>AY a d c 0) B J T E D ?_ C (λi o L c w r f s h n hT K p=>by rw[if_pos (u i o _ f)];exact M i o L c w r f s h n hT K p) (λo L c w f q n hT K p=>by rw[if_pos (u _ o _ f)];rw[z]at f;cases f;exact F L c w q n hT K p)
 .rw[<-k];rw[k]at this;rw[k];exact this
 intro i o c v r f;unfold WR at h;rw[all_eq_true]at h;have g:=h i (mem_range.2 r);rw[f]at g;simp only[Option.map_some,Option.getD_some,decide_eq_true_eq]at g;rw[g];rcases Cg i (eh d) with n|n
 .have p:=Zv n;rw[p];have s:=RM d a c 0 i _ v I p;rw[Ay]at s;exact s
 rw[getElem?_eq_none n];exact(PL d a c 0 i v Yv).symm
theorem CI{b:Array Oper}{Q:Exit->Act->Zh->Prop}{A:Nat}{a:Act}(c:List Nat)(last:Nat)(hlen:eh c=last)(h:Oper)(m:b[last]?=an h)(x:P.follows .mixedOrders=bg)(n:b.size=last+1)(r:Im b=bg)(u:Na b last=bg)(s:Acm b c=bg)(y:c.Nodup)(k:b.all (·.guard.isNone)=bg)(g:List (Nat×Nat))(l:YH b last g=bg)(J:(Nat->Bool)->Zh->Prop)(T:Nat->Zh->Value->Prop)(E:Nat->Zh->Zh->Prop)(q:∀j i w d v,j≠i->(j,i)∉g->Io b i j=bq->E j w d->T i w v->T i d v)(p:J (λ_=>bq) w.drew)(z:∀i o L f w,i<last->b[i]?=an o->L i=bq->(∀e∈o.after,Region.binds .any e=bg->L e.on=bg)->J L w->(∀e∈o.after,Gf e=bg->T e.on w (f e.on))->∀K:Act->Zh->Prop,Hid (∀v d,T i d v->E i w d->J (Bj L i) d->K ((AY a c f 0).put o.dst v) d)->Oper.wp P o (AY a c f 0) w K Q)(t:∀L f w,(∀i,i<last->L i=bg)->J L w->(∀i,i<last->(∀j,(j,i)∉g)->T i w (f i))->∀K:Act->Zh->Prop,Hid (∀a w,Q .normal a w->K a w)->Oper.wp P h (AY a c f 0) w K Q):
 (Code.region A b bg).wp P Q a w:=by
 subst hlen;exact Ip c (eh c) h m x n r u s y k g l J T E q p z t
theorem DO{b:Array Oper}{Q:Exit->Act->Zh->Prop}{H:Nat}{a:Act}(f:List Nat)(last:Nat)(hlen:eh f=last)(m:Oper)(q:b[last]?=an m)(D:P.follows .mixedOrders=bg)(r:b.size=last+1)(l:Im b=bg)(C:Na b last=bg)(A:Acm b f=bg)(F:f.Nodup)(p:b.all (·.guard.isNone)=bg)(J:Nat->Zh->Prop)(T:Nat->Zh->Value->Prop)(E:Zh->Zh->Prop)(y:∀i w c v,E w c->T i w v->T i c v)(s:J 0 w.drew)(G:∀i o k d w,i<last->b[i]?=an o->k<last->J k w->(∀e∈o.after,Gf e=bg->T e.on w (d e.on))->∀K:Act->Zh->Prop,Hid (∀v c,T i c v->E w c->J (k+1) c->K ((AY a f d 0).put o.dst v) c)->Oper.wp P o (AY a f d 0) w K Q)(B:∀d w,J last w->(∀i,i<last->T i w (d i))->∀K:Act->Zh->Prop,Hid (∀a w,Q .normal a w->K a w)->Oper.wp P m (AY a f d 0) w K Q):
 (Code.region H b bg).wp P Q a w:=
 CI f last hlen m q D r l C A F p [] rfl (Kr last J) T (λ_=>E) (λ_ i w c v _ _ _ g j=>y i w c v g j) (YI s) (λi o L d w g t n _ j hT K z=>G i o _ d w g t (UW g n) j hT K (λv c t u x=>z.out v c t u (YJ g n x))) (λL d w l j hT=>B d w (RL l j) (λi g=>hT i g (λ_ h=>by cases h)))
def Te(b n0:Nat):Nat->Zh->Value->Prop
 |0,_,v|2,_,v|5,_,v|9,_,v|12,_,v=>v=ee (an ⟨b,0,ba⟩)
 |1,_,v=>∃s,v=.string s/\s.size<=16
 |3,_,v=>∃r:Int,v=Zg r/\0<=r/\r<8
 |4,w,v=>∃g,v=.slice (an ⟨g,0,ba⟩) 3 3/\n0<=g/\Aa w g [.string ⟨#[112]⟩,.string ⟨#[113]⟩,.string ⟨#[114]⟩]
 |6,_,v=>∃r:Nat,v=Zg r/\r<3
 |7,w,v=>∃g k s,v=ee (an ⟨g,k,ba⟩)/\n0<=g/\ek w (Zd g k)=an (.string s)/\s.size<=1
 |8,_,v=>∃s,v=.string s/\s.size<=1
 |10,_,v=>∃r:Int,v=Zg r/\0<=r/\r<40
 |11,w,v=>∃g,v=.slice (an ⟨g,0,ba⟩) 5 5/\n0<=g/\Aa w g [Zg 1,Zg 3,Zg 10,Zg 40,Zg 200]
 |13,_,v=>∃r:Nat,v=Zg r/\r<5
 |14,w,v=>∃g k t,v=ee (an ⟨g,k,ba⟩)/\n0<=g/\ek w (Zd g k)=an (Zg t)
 |15,_,v=>∃t,v=Zg t
 |16,_,v=>∃s r nm pk tk,v=ct #[Ze,.string s,Zg r,.string nm,Zg pk,Zg tk]/\s.size<=16/\0<=r/\r<8/\nm.size<=1/\0<=pk/\pk<40
 |17,w,v=>∃g,v=ee (an ⟨g,0,ba⟩)/\n0<=g/\Aa w g [Ze,Zc,Ze,Zc,Ze,Ze]
 |_,_,_=>True
theorem WS{e:Nat}(n:b<e):∀i w j v,ep w j (an b)->Te b e i w v->Te b e i j v:=by
 intro i w j v f h;have l:∀g,e<=g->an g≠an b:=gG;unfold Te at h |-;split at h<;>first
  |exact h
  |(obtain⟨g,c,a,d⟩:=h;exact⟨g,c,a,d.au f Yv⟩)
  |(obtain⟨g,k,s,c,a,d,m⟩:=h;exact⟨g,k,s,c,a,f.cell d (l g a),m⟩)
  |(obtain⟨g,k,s,c,a,d⟩:=h;exact⟨g,k,s,c,a,f.cell d (l g a)⟩)
def Fk(w0:Zh)(b:Nat)(a:Zk)(n c:Nat)(p:Int)(n0 k:Nat)(w:Zh):Prop:=
 (∃p',AB w b a n c p'/\p<=p'/\p'<=p+10 *k)/\ep w0 w (an b)/\n0<=w.1.size
theorem Fk.call{i:Zh}{d:Int}(h:Fk i b a n c p g k w)(l:AB e b a n c d)(f:ep w e (an b))(j:p<=d)(m:d<=p+10 *(k+1)):Fk i b a n c p g (k+1) e:=
 ⟨⟨d,l,j,Yv⟩,Ai h.2.1 f,Zm h.2.2 f.size⟩
theorem Fk.alloc{n0:Nat}(h:Fk e b a n c p n0 k w)(o:Obj):Fk e b a n c p n0 (k+1) (w.alloc o):=by have d:bs w.1.size w (w.alloc o):=gB;obtain⟨⟨j,i,f,l⟩,g,m⟩:=h;exact⟨⟨j,i.A d,f,Yv⟩,Ai g (Af _ d),Yt⟩
theorem Fk.ah{d:Nat}(h:Fk e b a n c p d k w):Fk e b a n c p d (k+1) w:=by obtain⟨⟨i,g,f,j⟩,h⟩:=h;exact⟨⟨i,g,f,Yv⟩,h⟩
theorem Aa.fz{B:Nat}{l:Zj}(h:Aa w B l):∀j,j<eh l->w.frozen? ⟨B,j,ba⟩=bq:=λj a=>(h j _ (Zv a)).2
theorem Ho{q:Nat}{v a b c d e f:D4}:Tn [g,q] w (ev (ev (ev (ev (ev (ev (ev w (Zd g 0) v) (Zd q 0) a) (Zd q 1) b) (Zd q 2) c) (Zd q 3) d) (Zd q 4) e) (Zd q 5) f):=
 have s:∀X j u,Tn [g,q] X (ev X (Zd q j) u):=λX j u=>Tn.set X q j u Yu
 ((((((Tn.set w g 0 v Yu).ag (s _ _ _)).ag (s _ _ _)).ag (s _ _ _)).ag (s _ _ _)).ag (s _ _ _)).ag (s _ _ _)
theorem AB.S(h:AB w b a n c p){V:List Nat}(d:Tn V w e)(r:∀g∈V,b<g)(k:b∉V):AB e b a n c p:=by
 have i:=h.lt;have f:∀q j,q<=b->ek e (Zd q j)=ek w (Zd q j):=λq j l=>cell?_of_block (d.block q Yv (λl=>Dl (r q l)));refine⟨(f b 0 (Zx)).ag h.c0,(f b 1 (Zx)).ag h.c1,?_,Zr i d.size,h.n2,?_⟩
 .exact(frozen?_of_block (d.block b i k)).ag h.f1
 rcases h.bytes with h|⟨q,m,o,l,t⟩
 .exact .inl h
 refine .inr ⟨q,m,o,l,λj s=> ?_⟩;have⟨x,u,v,y⟩:=t j s;exact gG
theorem Aaj(h:AB w b a n c p)(hp:0<=p)(zS:p<=800000):
 D8 70 #[Yy b] w λe B=>∃kd T O q m z,e=C5 (ct #[Zg kd,C4 T,Zg O,C4 q,Zg m,Zg z])/\T.size<=16/\0<=O/\O<8/\q.size<=1/\0<=m/\m<40/\GF w B b a n c p 300:=by
 obtain⟨zO,W,hW⟩:=h.lt,D6 w Xx 133;have⟨bW,zW,xW⟩:=Ax hW;have zB:Hid (Fk W b a n c p W.1.size 0 W.drew):=⟨⟨p,(h.A bW).drew,Int.le_refl _,Yv⟩,⟨rfl,rfl,rfl,Zx,λ_ _ _=>rfl⟩,Zx⟩;have HW:=Yw hW;have HX:Hid (Aa W w.1.size Xw):=xW;have HB:Hid (Zz w W/\W.1.size=w.1.size+1):=gB;delta D8;go_in;go_upto_region 1 with fail;rw[<-HW.o];have E:Hid (Zz w W/\W.1.size=w.1.size+1/\b<W.1.size):=gD;refine PJ 18 Yr Yr Yr Yr (λx=>{tmps:= #[Yy b,undef,Yy w.1.size,x 17,undef,x 0,x 1,x 2,x 3,x 4,x 5,x 6,x 7,x 8,x 9,x 10,x 11,x 12,x 13,x 14,x 15,x 16,undef,undef,undef,undef,undef,undef,undef,undef,undef,undef,undef,undef,undef,undef,undef,undef,undef,undef,undef,undef,undef,undef,undef,undef,undef,undef,undef,undef],defers:=[]}) (λ_=>undef) (Fk W b a n c p W.1.size) (Te b W.1.size) (λw B=>ep w B (an b)) (WS E.2.2) ?_ zB ?_ ?_
 .intro i o x v Q R;rcases(show i=0\/i=1\/i=2\/i=3\/i=4\/i=5\/i=6\/i=7\/i=8\/i=9\/i=10\/i=11\/i=12\/i=13\/i=14\/i=15\/i=16\/i=17 by omega)with rfl|rfl|rfl|rfl|rfl|rfl|rfl|rfl|rfl|rfl|rfl|rfl|rfl|rfl|rfl|rfl|rfl|rfl<;>(cases R;rfl)
 .intro i o k x w Q R hk f u K d;rcases(show i=0\/i=1\/i=2\/i=3\/i=4\/i=5\/i=6\/i=7\/i=8\/i=9\/i=10\/i=11\/i=12\/i=13\/i=14\/i=15\/i=16\/i=17 by omega)with rfl|rfl|rfl|rfl|rfl|rfl|rfl|rfl|rfl|rfl|rfl|rfl|rfl|rfl|rfl|rfl|rfl|rfl<;>cases R<;>rw[if_pos Yp]
  .dsimp only at d |-;go_simp;exact d.out _ w rfl (AO _ _) f.ah
  .dsimp only at d |-;have d0:=u {on:=0,ground:=ed} Yu Yp;have zC:x 0=Yy b:=d0;have⟨⟨D,y,J,L⟩,_⟩:=id f;rw[zC]at d |-;go_simp;refine(Tb y Yv Yv).ai ?_;rintro e B ⟨s,rfl,hs,⟨p2,A,Y,h4⟩,j⟩;exact d.out _ B ⟨s,rfl,hs⟩ j (Fk.call f A j Yv Yv)
  .dsimp only at d |-;go_simp;exact d.out _ w rfl (AO _ _) f.ah
  .dsimp only at d |-;have d2:=u {on:=2,ground:=ed} Yu Yp;have zK:x 2=Yy b:=d2;have⟨⟨D,y,J,L⟩,_⟩:=id f;rw[zK]at d |-;go_simp;refine(AE 8 y Yv Yv Yv Yv).ai ?_;rintro e B ⟨r,rfl,r0,M,A,j⟩;exact d.out _ B ⟨r,rfl,r0,M⟩ j (Fk.call f A j Yv Yv)
  .dsimp only at d |-;go_simp;exact d.out _ _ ⟨w.1.size,rfl,f.2.2,Aa.new w [C4 ⟨#[112]⟩,C4 ⟨#[113]⟩,C4 ⟨#[114]⟩] 9⟩ (Af _ (Zy)) (f.alloc _)
  .dsimp only at d |-;go_simp;exact d.out _ w rfl (AO _ _) f.ah
  .dsimp only at d |-;have d5:=u {on:=5,ground:=ed} Yu Yp;have zM:x 5=Yy b:=d5;have⟨⟨D,y,J,L⟩,_⟩:=id f;rw[zM]at d |-;go_simp;refine(AE 3 y Yv Yv Yv Yv).ai ?_;rintro e B ⟨r,rfl,r0,M,A,j⟩;exact d.out _ B ⟨r.toNat,by congr 1;omega,Yv⟩ j (Fk.call f A j Yv Yv)
  .dsimp only at d |-;have d4:=u {on:=4,ground:=ed} Yu Yp;have d6:=u {on:=6,ground:=ed} Yu Yp;obtain⟨g,C,j,l⟩:=d4;obtain⟨r,F,y⟩:=d6;have zT:r<3:=y;rw[C,F]at d |-;go_simp;rcases(show r=0\/r=1\/r=2 by omega)with rfl|rfl|rfl
   .exact d.out _ w ⟨g,0,_,rfl,j,(l 0 _ rfl).1,Yq⟩ (AO _ _) f.ah
   .exact d.out _ w ⟨g,1,_,rfl,j,(l 1 _ rfl).1,Yq⟩ (AO _ _) f.ah
   exact d.out _ w ⟨g,2,_,rfl,j,(l 2 _ rfl).1,Yq⟩ (AO _ _) f.ah
  .dsimp only at d |-;have d7:=u {on:=7,ground:=ed} Yu Yp;obtain⟨g,k',s,C,j,l,hs⟩:=d7;rw[C]at d |-;go_simp;exact d.out _ w ⟨s,rfl,hs⟩ (AO _ _) f.ah
  .dsimp only at d |-;go_simp;exact d.out _ w rfl (AO _ _) f.ah
  .dsimp only at d |-;have d9:=u {on:=9,ground:=ed} Yu Yp;have zN:x 9=Yy b:=d9;have⟨⟨D,y,J,L⟩,_⟩:=id f;rw[zN]at d |-;go_simp;refine(AE 40 y Yv Yv Yv Yv).ai ?_;rintro e B ⟨r,rfl,r0,M,A,j⟩;exact d.out _ B ⟨r,rfl,r0,M⟩ j (Fk.call f A j Yv Yv)
  .dsimp only at d |-;go_simp;exact d.out _ _ ⟨w.1.size,rfl,f.2.2,Aa.new w [Zg 1,Zg 3,Zg 10,Zg 40,Zg 200] 3⟩ (Af _ (Zy)) (f.alloc _)
  .dsimp only at d |-;go_simp;exact d.out _ w rfl (AO _ _) f.ah
  .dsimp only at d |-;have zG:=u {on:=12,ground:=ed} Yu Yp;have zA:x 12=Yy b:=zG;have⟨⟨D,y,J,L⟩,_⟩:=id f;rw[zA]at d |-;go_simp;refine(AE 5 y Yv Yv Yv Yv).ai ?_;rintro e B ⟨r,rfl,r0,M,A,j⟩;exact d.out _ B ⟨r.toNat,by congr 1;omega,Yv⟩ j (Fk.call f A j Yv Yv)
  .dsimp only at d |-;have zF:=u {on:=11,ground:=ed} Yu Yp;have zH:=u {on:=13,ground:=ed} Yu Yp;obtain⟨g,C,j,l⟩:=zF;obtain⟨r,F,y⟩:=zH;have zT:r<5:=y;rw[C,F]at d |-;go_simp;rcases(show r=0\/r=1\/r=2\/r=3\/r=4 by omega)with rfl|rfl|rfl|rfl|rfl
   .exact d.out _ w ⟨g,0,_,rfl,j,(l 0 _ rfl).1⟩ (AO _ _) f.ah
   .exact d.out _ w ⟨g,1,_,rfl,j,(l 1 _ rfl).1⟩ (AO _ _) f.ah
   .exact d.out _ w ⟨g,2,_,rfl,j,(l 2 _ rfl).1⟩ (AO _ _) f.ah
   .exact d.out _ w ⟨g,3,_,rfl,j,(l 3 _ rfl).1⟩ (AO _ _) f.ah
   exact d.out _ w ⟨g,4,_,rfl,j,(l 4 _ rfl).1⟩ (AO _ _) f.ah
  .dsimp only at d |-;have zI:=u {on:=14,ground:=ed} Yu Yp;obtain⟨g,k',t,C,j,l⟩:=zI;rw[C]at d |-;go_simp;exact d.out _ w ⟨t,rfl⟩ (AO _ _) f.ah
  .dsimp only at d |-;have d1:=u {on:=1,ground:=ed} Yu Yp;have d3:=u {on:=3,ground:=ed} Yu Yp;have d8:=u {on:=8,ground:=ed} Yu Yp;have zE:=u {on:=10,ground:=ed} Yu Yp;have zJ:=u {on:=15,ground:=ed} Yu Yp;obtain⟨s,C,J⟩:=d1;obtain⟨r,F,L,Y⟩:=d3;obtain⟨q,e3,h4⟩:=d8;obtain⟨m,e4,h5,h6⟩:=zE;obtain⟨z,e5⟩:=zJ;rw[C,F,e3,e4,e5]at d |-;go_simp;exact d.out _ w ⟨s,r,q,m,z,rfl,J,L,Y,h4,h5,h6⟩ (AO _ _) f.ah
  dsimp only at d |-;go_simp;exact d.out _ _ ⟨w.1.size,rfl,f.2.2,Aa.new w Xw 133⟩ (Af _ (Zy)) (f.alloc _)
 intro o x w8 R f hT K d;cases R;rw[if_pos Yp];obtain⟨g,C,j,l⟩:=hT 17 Yv;obtain⟨s,r,q,m,z,F,J,L,Y,h4,h5,h6⟩:=hT 16 Yv;dsimp only;rw[C,F];obtain⟨H,I,N,S,U,V⟩:=Zn (l 0 _ rfl) (Zn (l 1 _ rfl) (Zn (l 2 _ rfl) (Zn (l 3 _ rfl) (Zn (l 4 _ rfl) (l 5 _ rfl)))));go_simp;refine d.out _ _ ?_;have⟨Z,G⟩:=Ag (ev (ev (ev (ev (ev (ev w8 (Zd g 0) Ze) (Zd g 1) (C4 s)) (Zd g 2) (Zg r)) (Zd g 3) (C4 q)) (Zd g 4) (Zg m)) (Zd g 5) (Zg z));have xZ:Aa Z g [Ze,C4 s,Zg r,C4 q,Zg m,Zg z]:=by rw[G];exact(((((l.set 0 _).set 1 _).set 2 _).set 3 _).set 4 _).set 5 _
 have P:Tn [g] w8 Z:=by rw[G];exact(((((AX _ _ _ _).ag (AX _ _ _ _)).ag (AX _ _ _ _)).ag (AX _ _ _ _)).ag (AX _ _ _ _)).ag (AX _ _ _ _)
 rw[<-G];clear G H I N S U V l C F hT;obtain⟨⟨D,y,q1,q2⟩,U,zP⟩:=f;have gZ:ep w8 Z (an g):=⟨P.os,P.tape,P.output,P.size,λi Q V=>P.block i Q gA⟩;have bl:=E.2.2;have rZ:=y.grown gZ Yv;have xq:=(HX.au U Yv).au gZ (Dl E.2.1);go_wp2_with fail;refine(AE 20 rZ Yv Yv Yv Yv).ai ?_;rintro e w1 ⟨k,rfl,k0,k1,M,X⟩;have x1:=xZ.au X Yv;have y1:=xq.au X Yv;have HE:Hid (∀N,Tn [g,w.1.size] w1 N->GF w N b a n c p 300):=λN l=>by
  have zU:=E.2.1;have S:Tn [b,g,w.1.size] W N:=(((Tn.grown U Yu).ag (P.ai Yu)).ag (Tn.grown X Yu)).ag (l.ai Yu);refine⟨⟨D+1,?_,Yv,Yv⟩,?_⟩
  .exact(M.S l Yt Yt)
  exact⟨S.os.ag E.1.os,S.tape.ag E.1.tape,S.output.ag E.1.output,Zm E.1.size S.size,λi Q V=>(S.block i Yv (by simp at V |-;omega)).ag (E.1.block i Q)⟩
 have HQ:Hid (s.size<=16/\0<=r/\r<8/\q.size<=1/\0<=m/\m<40):=gH;obtain⟨a0,a1,a2,a3,a4,a5⟩:=Aa.c6 x1 0 1 2 3 4 5;obtain⟨⟨l,C,F,G,H,I⟩,fa,fb⟩:=Aa.c6 y1 0 1 2 3 4 5,x1.fz,y1.fz;have V:¬g=w.1.size:=Dl E.2.1;clear U gZ P rZ xq xZ x1 y1 X M E HB HX zB y q1 q2 J L Y h4 h5 h6 zP bl h zO j hp zS;have j:Hid (∀(kd:Int) N,Tn [g,w.1.size] w1 N->∃J T O E y L,Ending.returned (ct #[Zg kd,C4 s,Zg r,C4 q,Zg m,Zg z])=C5 (ct #[Zg J,C4 T,Zg O,C4 E,Zg y,Zg L])/\T.size<=16/\0<=O/\O<8/\E.size<=1/\0<=y/\y<40/\GF w N b a n c p 300):=gD;clear HE HQ;go_wp2
 .exact C1 (ct #[Zg 1,C4 s,Zg r,C4 q,Zg m,Zg z]) Fu (j 1 _ Ho)
 .exact C1 (ct #[Zg 2,C4 s,Zg r,C4 q,Zg m,Zg z]) Fu (j 2 _ Ho)
 .exact C1 (ct #[Zg 3,C4 s,Zg r,C4 q,Zg m,Zg z]) Fu (j 3 _ Ho)
 .exact C1 (ct #[Zg 4,C4 s,Zg r,C4 q,Zg m,Zg z]) Fu (j 4 _ Ho)
 .exact C1 (ct #[Zg 5,C4 s,Zg r,C4 q,Zg m,Zg z]) Fu (j 5 _ Ho)
 .exact C1 (ct #[Zg 6,C4 s,Zg r,C4 q,Zg m,Zg z]) Fu (j 6 _ Ho)
 .exact C1 (ct #[Zg 8,C4 s,Zg r,C4 q,Zg m,Zg z]) Fu (j 8 _ Ho)
 .exact C1 (ct #[Zg 9,C4 s,Zg r,C4 q,Zg m,Zg z]) Fu (j 9 _ Ho)
 exact C1 (ct #[Zg 10,C4 s,Zg r,C4 q,Zg m,Zg z]) Fu (j 10 _ Ho)
theorem Tf(w:Zh)(g:Nat)(y:Int)(h:ek w (Zd g 0)=an (.int .u8 y)):∃s,(convert 22 9 (Yz g 1 1)).run prog w=.ok (C4 s) w/\s.size=1:=
 ⟨_,run_convert_bytes_arg (P:=prog) w 22 5 underlying22 underlying5 g 0 1 1 [y] rfl (λi a=>by
  obtain rfl:i=0:=Yv;simpa using h) 9 underlying9,Ge [y]⟩
theorem UX{N:Nat}{n:Int}(h:n<10^N)(c:N<=9):n<1000000000:=by
 have d:(10:Nat)^N<=10^9:=Nat.pow_le_pow_right Yv c;have a:((10^N:Nat):Int)<=((10^9:Nat):Int):=Yv;have b:((10^N:Nat):Int)=(10:Int)^N:=Yu;rw[b]at a;have e:((10^9:Nat):Int)=1000000000:=rfl;omega
theorem Nb:∀(N:Nat) (n:Int) (w:Zh),0<=n->n<10^N->N<=9->
 D8 63 #[Zg n] w λe a=>∃s,e=C5 (C4 s)/\s.size<=N+1/\Zz w a:=by
 intro N;induction N with
 |zero=>
  intro n w I d _;obtain rfl:n=0:=by simp at d;omega
  have⟨s,f,j⟩:=Tf (w.alloc (ca #[.int .u8 48] 5)) w.1.size 48 Yu;delta D8;go_in;go_wp2;go_ret;exact⟨s,rfl,Yv,Zy⟩
 |succ N ih=>
  intro n w I d M;have S:=UX d M;by_cases hc:n<10
  .have P:IntKind.u8.wrap (48+n)=48+n:=KL Yv Yv;have⟨s,f,j⟩:=Tf (w.alloc (ca #[.int .u8 (48+n)] 5)) w.1.size (48+n) Yu;delta D8;go_in;go_wp2;go_ret;exact⟨s,rfl,Yv,Zy⟩
  have hq:n.tdiv 10=n/10:=gG;have hm:n.tmod 10=n%10:=gG;have T:IntKind.i64.wrap (n/10)=n/10:=Cl Yv Yv;have U:IntKind.i64.wrap (48+n%10)=48+n%10:=Cl Yv Yv;have P:IntKind.u8.wrap (48+n%10)=48+n%10:=KL Yv Yv;have L:Hid (∀X,D8 63 #[Zg (n/10)] X λe a=>∃s,e=C5 (C4 s)/\s.size<=N+1/\Zz X a):=gD;clear ih;delta D8;go_in
  go_upto_region 3 with fail;refine DO [10,11,12,13,14,15,16,17,18,19] 10 rfl _ rfl Yr Yr Yr Yr Yr Yq Yr (λ_ X=>Zz w X) (λi X v=>match i with
   |0=>v=Zg n
   |1=>v=Zg (n/10)
   |2=>∃s,v=C4 s/\s.size<=N+1
   |3=>v=Zg n
   |4=>v=Zg (n%10)
   |5=>v=Zg (48+n%10)
   |6=>v=.int .u8 (48+n%10)
   |7=>∃g,v=Yz g 1 1/\g<X.1.size/\ek X (Zd g 0)=an (.int .u8 (48+n%10))
   |8=>∃s,v=C4 s/\s.size=1
   |9=>∃s,v=C4 s/\s.size<=N+1+1
   |_=>True) (λX Y=>Zz X Y) ?_ Ae.drew ?_ ?_
  .intro i X Y v h hT;rcases i with _|_|_|_|_|_|_|_|_|_|_<;>first
    |exact hT
    |(obtain⟨g,d,l,J⟩:=hT;exact⟨g,d,Zr l h.size,(h.cell (p:=⟨g,0,ba⟩) l).ag J⟩)
  .intro i o k x X W O Z b c K a;rcases(show i=0\/i=1\/i=2\/i=3\/i=4\/i=5\/i=6\/i=7\/i=8\/i=9 by omega)with rfl|rfl|rfl|rfl|rfl|rfl|rfl|rfl|rfl|rfl<;>cases O<;>simp only[AY,Act.put,Zq,Zp,Zo]at a |-
   .go_simp;exact a.out _ X rfl Ae b
   .have y:=c ⟨0,ed⟩ Yu Yp;rw[show x 0=Zg n from y]at a |-;go_simp;exact a.out _ X rfl Ae b
   .have z:=c ⟨1,ed⟩ Yu Yp;rw[show x 1=Zg (n/10)from z]at a |-;go_simp;refine(L X).ai ?_;rintro e t ⟨s,rfl,f,q⟩;exact a.out _ t ⟨s,rfl,f⟩ q (b.ag (q.ai b.size))
   .go_simp;exact a.out _ X rfl Ae b
   .have A:=c ⟨3,ed⟩ Yu Yp;rw[show x 3=Zg n from A]at a |-;go_simp;exact a.out _ X rfl Ae b
   .have B:=c ⟨4,ed⟩ Yu Yp;rw[show x 4=Zg (n%10)from B]at a |-;go_simp;exact a.out _ X rfl Ae b
   .have C:=c ⟨5,ed⟩ Yu Yp;rw[show x 5=Zg (48+n%10)from C]at a |-;go_simp;exact a.out _ X rfl Ae b
   .have D:=c ⟨6,ed⟩ Yu Yp;rw[show x 6=.int .u8 (48+n%10)from D]at a |-;have m:bs X.1.size X (X.alloc (ca #[.int .u8 (48+n%10)] 5)):=gB;go_simp;exact a.out _ _ ⟨X.1.size,rfl,Yu,Yu⟩ m (b.ag (m.ai b.size))
   .obtain⟨g,F,V,u⟩:=c ⟨7,ed⟩ Yu Yp;obtain⟨s,f,j⟩:=Tf X g _ u;rw[F]at a |-;go_simp;exact a.out _ X ⟨s,rfl,j⟩ Ae b
   obtain⟨r,E,z2⟩:=c ⟨2,ed⟩ Yu Yp;have⟨Q,G,z8⟩:=c ⟨8,ed⟩ Yu Yp;rw[E,G]at a |-;have hl:¬9223372036854775807<r.size+1:=Yv;go_simp;exact a.out _ X ⟨r++Q,rfl,by rw[ByteArray.size_append];omega⟩ Ae b
  intro x X b hT K a;simp only[AY,Act.put,Zq,Zp,Zo];obtain⟨s,H,R⟩:=hT 9 Yq;rw[H];go_simp;refine a.out _ _ ?_;clear a K hT;go_wp2;go_ret;exact⟨s,rfl,R,b⟩
theorem UY(h:AB w b a n c p)(m:0<=p)(i:p<=1000000):
 D8 16 #[Yy b,Ze] w λe d=>e=C5 Ze/\AB d b a n c (p+1)/\ep w d (an b):=by
 have HN:Hid (AB (ev w (Zd b 1) (Zg (p+1))) b a n c (p+1)/\ep w (ev w (Zd b 1) (Zg (p+1))) (an b)):=⟨h.next _,PH _ _ _ _⟩;obtain⟨j,k,l,f,g,d⟩:=h;have o:IntKind.i64.wrap (p+1)=p+1:=Cl Yv Yv;clear d;delta D8;go_in;go_wp2;go_ret;exact⟨rfl,HN.1,HN.2⟩
theorem PM(m:Nat)(h:AB w b a n c p)(j:0<=p)(f:p<=1000000)(k:m<=2000000):
 D8 16 #[Yy b,Zg m] w λe d=>∃r:Nat,e=C5 (Zg r)/\(m=0\/r<m)/\AB d b a n c (p+1)/\ep w d (an b):=by
 by_cases hz:m=0
 .subst hz;refine(UY h j f).ai ?_;rintro e d ⟨rfl,g,i⟩;exact⟨0,rfl,.inl rfl,g,i⟩
 refine(AE m h j f Yv Yv).ai ?_;rintro e d ⟨r,rfl,r0,l,g,i⟩;exact⟨r.toNat,by congr 2;omega,.inr Yv,g,i⟩
def UZ(w:Zh)(a:Zk)(n:Nat):Prop:=n=0\/∃q off,a=an ⟨q,off,ba⟩/\q<w.1.size/\∀j,j<n->∃x:Int,ek w (Zd q (off+j))=an (.int .u8 x)/\0<=x/\x<256
theorem UZ.A(h:UZ w a n)(c:Zz w e):UZ e a n:=by
 rcases h with h|⟨q,b,i,d,l⟩
 .exact .inl h
 refine .inr ⟨q,b,i,Zr d c.size,λj k=> ?_⟩;have⟨x,f,g⟩:=l j k;exact⟨x,(c.cell (p:=⟨q,b+j,ba⟩) d).ag f,g⟩
theorem Lh{X Y:Zh}(h:Zz w X)(a:ep X Y (an b))(d:w.1.size<=b):bs w.1.size w Y:=
 h.ag ⟨a.os,a.tape,a.output,a.size,λi c=>a.block i (Zr c h.size) (λe=>by injection e with e;omega)⟩
