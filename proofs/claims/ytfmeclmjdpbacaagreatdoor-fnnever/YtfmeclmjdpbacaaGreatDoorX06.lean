import Derived.Test.YtfmeclmjdpbacaaGreatDoorX04
import Derived.Deep.MidRow
set_option maxRecDepth 100000
set_option maxHeartbeats 16000000
open Option renaming some->ai
open Decidable renaming decide->bq
open List renaming length->ed
open Go.World renaming cell?->eh,setCell->el
namespace Go.Proofs.YtfmeclmjdpbacaaGreatDoor
open ChangeShapes WideShapes ChangeAt RowKit _root_.Go.Proofs.Tryz List World Value
variable{V:List Nat}{w:Zh}{a B:Nat}{l:Zj}{T P L:Value}{b:C5}
theorem DJ{d:Zh}{e:TypeId}{size:Nat}{v:Dg}{n:Nat}{f:Zj}(h:w.ownsRow a e size v n f)(j:Tn V w d)(i:∀b∈V,b<a):d.ownsRow a e size v n f:=
 Ar h (λq c=>j.block q (Ab h c).2 (λg=>by have k:=i q g;have g:=(Ab h c).1;omega))
theorem Aa.there(h:Aa w B l):w.there B 0 (ed l):=λj c=>by obtain⟨a,b⟩:=h j _ (Zv c);rw[Ax];exact⟨by rw[a];rfl,b⟩
theorem Aa.range(h:Aa w B l):w.rangeAt B 0 l:=λj v a=>by rw[Ax];exact(h j v a).1
theorem Ap(B:Nat):∀(vs:Zj) (o:Nat) (w:Zh),Tn [B] w (w.setCells B o vs)
 |[],_,w=>Tn.of Ae
 |v::r,o,w=>(Tn.set w B o v Yu).ag (Ap B r (o+1) (el w (Zd B o) v))
theorem Aa.ax(h:Aa w B l)(a:Zj)(d:ed a=ed l):Aa (w.setCells B 0 a) B a:=λj v c=>by have e:=(Zw c).1;have b:=rangeAt_setCells_same w B 0 a (d▸h.there) j v c;rw[Ax]at b;refine⟨b,?_⟩;rw[frozen?_setCells];exact(h j _ (Zv Yv)).2
theorem Bc.O{f:Zh}{p:Zj}{l:C5}{o:C7}{m:C6}(h:Bc w a T P L p l o m)(s:Tn V w f)(q:∀b∈V,b<a):Bc f a T P L p l o m:=by have c:∀{e:TypeId} {size:Nat} {v:Dg} {n:Nat} {xs:Zj},w.ownsRow a e size v n xs->f.ownsRow a e size v n xs:=λd=>Ar d (λg j=>s.block g (Ab d j).2 (λe=>by have:=q g e;have:=(Ab d j).1;omega));exact⟨h.len,c h.aw,λi k r d j=>c (h.C i k r d j),c h.pins,c h.bh,h.nd⟩
theorem Bc.mono{base base':Nat}{rs:Zj}{d:C7}{c:C6}(h:Bc w base T P L rs b d c)(a:base'<=base):Bc w base' T P L rs b d c:=
 ⟨h.len,h.aw.ah a,λi k r e f=>(h.C i k r e f).ah a,h.pins.ah a,h.bh.ah a,h.nd⟩
abbrev Bc.ah:=@Bc.mono
theorem Bc.lo{b:Nat}{e:Zj}{j:C5}{l:C7}{k:C6}(h:Bc w b T P L e j l k):∀g∈BJ T P L e,b<=g:=by
 intro g a;unfold BJ at a;simp only[A5,A6,mem_filterMap]at a;rcases a with a|a|a|⟨r,f,a⟩
 .exact(Ab h.aw a).1
 .exact(Ab h.pins a).1
 .exact(Ab h.bh a).1
 obtain⟨i,c⟩:=A3 f;have d:=(Zw c).1;rw[h.len]at d;exact(Ab (h.C i _ r (Zv d) c) a).1
def Jm:Kd:=⟨⟨#[]⟩,0,⟨#[]⟩,[]⟩
def YB(ks:List Kd)(at_:Int)(u:Kd)(ra:Zk)(rc:Nat):Prop:=
 (u=Jm/\ra=none/\rc=0/\∀y∈ks,¬y.born<at_)\/(u∈ks/\u.born<at_/\∀y∈ks,y.born<at_->y.born<=u.born)
theorem YB.snoc{f:C5}{b:Int}{u x:Kd}{m:Zk}{rc:Nat}(h:YB f b u m rc)(n:1<=x.born):(¬x.born<b->YB (f++[x]) b u m rc)/\(x.born<b->¬u.born<x.born->YB (f++[x]) b u m rc)/\(x.born<b->u.born<x.born->∀c rd,YB (f++[x]) b x c rd):=by
 have j:∀{y:Kd},y∈f++[x]->y∈f\/y=x:=λ{y} a=>by
  rcases A5.1 a with a|a
  .exact .inl a
  exact .inr (C9 a)
 refine⟨λi=> ?_,λi l=> ?_,λi l c rd=> ?_⟩
 .rcases h with⟨d,g,e,k⟩|⟨d,g,e⟩
  .refine .inl ⟨d,g,e,λy a=> ?_⟩;rcases j a with a|rfl
   .exact k y a
   exact i
  refine .inr ⟨mem_append_left _ d,g,λy a c=> ?_⟩;rcases j a with a|rfl
  .exact e y a c
  exact absurd c i
 .rcases h with⟨d,_⟩|⟨d,g,e⟩
  .exfalso;rw[d]at l;exact l (by show(0:Int)<_;omega)
  refine .inr ⟨mem_append_left _ d,g,λy a c=> ?_⟩;rcases j a with a|rfl
  .exact e y a c
  omega
 refine .inr ⟨mem_append_right _ Yu,i,λy a c=> ?_⟩;rcases j a with a|rfl
 .rcases h with⟨_,_,_,k⟩|⟨_,_,e⟩
  .exact absurd c (k y a)
  have:=e y a c;omega
 omega
def NU:Zj:=[Zc,Ze,Zc,Zb]
theorem Ks{G d m:Nat}{O:Dg}{Q zE B q:Int}(h:Int){ps:C7}{ls:C6}(c:Dr w G d m O P L Q zE B q b ps ls)(zB:(b.map (·.sum)).Nodup)(zC:∀k∈b,(k.sum.size:Int)=Q)(hk:ed b<=600)(zA:∀k∈b,1<=k.born):
 D4 113 #[Yy d,Zg h] w λe a=>∃u f g,e=C1 (.tuple #[CG u f g,.bool (bq (0<u.born))])/\YB b h u f g/\Zz w a:=by
 obtain⟨oa,zJ,rfl⟩:=AB c.ord;obtain⟨HD,zF,W,a⟩:=Yw c,c.box.lt,Ag ((w.alloc (.cells #[Zc,Ze,Zc,Zb] 50)).alloc (.cells #[Zc,Ze,Zc,Zb] 50));have N:Below w.1.size w W:=by rw[a];exact(Zy).alloc Yu _
 have l:W.1.size=w.1.size+2:=by rw[a];simp
 have zR:Aa W w.1.size NU:=by rw[a];exact Aa.A (v:=Zc) (Aa.new w NU 50) (Zy)
 have r:Aa W (w.1.size+1) [C0 Jm.sum,Zg Jm.born,C0 Jm.Q,Cw none Jm.C 0]:=by have M:=Aa.new (w.alloc (.cells #[Zc,Ze,Zc,Zb] 50)) NU 50;rw[Aq]at M;rw[a];exact M
 obtain⟨⟨e5,_⟩,p,n,Z⟩:=Aa.A c.box N 5 _ rfl,Yw a,Yw (Zn zR r),Yw l;clear a c zR r l;delta D4;go_in;go_upto_region 2 with fail;rw[<-p.o];clear p;go_wp2;go_loopw [15] (λi wr=>∃(k:Nat) (u:Kd) (f:Zk) (g:Nat),k<=ed b/\i=Zg k/\Hid (Aa wr (w.1.size+1) [C0 u.sum,Zg u.born,C0 u.Q,Cw f u.C g]/\Aa wr w.1.size NU/\YB (b.take k) h u f g/\Zz w wr/\w.1.size+2<=wr.1.size)) (λi _=>ed b -(intOf i).toNat)
 case atStart=>exact⟨0,Jm,none,0,Aw _,rfl,⟨n.2,n.1,.inl ⟨rfl,rfl,rfl,(λy a=>by simp at a)⟩,N,C8 Z.o⟩⟩
 clear n;obtain⟨k,u,f,g,zG,rfl,c⟩:=hrel;have l:=c.2.2.2.1;have zI:=c.2.2.2.2;by_cases hlt:k<ed b
 case neg=>
  obtain rfl:k=ed b:=Yv;have z:=c.2.2.1;rw[Zt (Zx)]at z;have K:Hid (YB b h u f g):=z;obtain⟨⟨R,_⟩,⟨S,_⟩,⟨T,_⟩,U,_⟩:=c.1 0 _ rfl,c.1 1 _ rfl,c.1 2 _ rfl,c.1 3 _ rfl;have r0:eh wr (Zd (w.1.size) 0)=ai Zc:=(c.2.1 0 _ rfl).1;have r1:eh wr (Zd (w.1.size) 1)=ai Ze:=(c.2.1 1 _ rfl).1;have r2:eh wr (Zd (w.1.size) 2)=ai Zc:=(c.2.1 2 _ rfl).1;have r3:eh wr (Zd (w.1.size) 3)=ai Zb:=(c.2.1 3 _ rfl).1;obtain⟨g0,g1,g2,g3⟩:=(c.2.1 0 _ rfl).2,(c.2.1 1 _ rfl).2,(c.2.1 2 _ rfl).2,(c.2.1 3 _ rfl).2;have A:eh wr.drew (Zd (w.1.size+1) 0)=ai (C0 u.sum)/\eh wr.drew (Zd (w.1.size+1) 1)=ai (Zg u.born)/\eh wr.drew (Zd (w.1.size+1) 2)=ai (C0 u.Q)/\eh wr.drew (Zd (w.1.size+1) 3)=ai (Cw f u.C g):=⟨R,S,T,U⟩;have e:∀C F H J,Zz w (el (el (el (el wr (Zd (w.1.size) 0) C) (Zd (w.1.size) 1) F) (Zd (w.1.size) 2) H) (Zd (w.1.size) 3) J):=λC F H J=>(((l.setCell Yu _).setCell Yu _).setCell Yu _).setCell Yu _;clear z;go_wp2;go_region_held3 (λX=>eh X (Zd (w.1.size+1) 0)=ai (C0 u.sum)/\eh X (Zd (w.1.size+1) 1)=ai (Zg u.born)/\eh X (Zd (w.1.size+1) 2)=ai (C0 u.Q)/\eh X (Zd (w.1.size+1) 3)=ai (Cw f u.C g))
   (first|with_reducible exact A|(simp[go_sem];exact A)|go_keep)
   (fail)
  all_goals
   go_wp2;refine Co (.tuple #[CG u f g,.bool (bq (0<u.born))]) (by simp[results,results113,go_sem,CG,r0,r1,r2,r3]) ⟨u,f,g,rfl,K,(e _ _ _ _).drew⟩
 have t:=Dr.A HD l;have p:=t.ord;obtain⟨og,oc,i,_,zH⟩:=Cv p (λe=>by injection e with _ h2 _;omega);cases i;have HG:Hid (b[k]?=ai b[k]):=Zv hlt;have n:b[k]∈b:=getElem_mem hlt;have z:(b.map (·.sum))[k]?=ai b[k].sum:=by simp[hlt]
 have⟨r,s,_,gj⟩:=t.look zB zC n;have y:=zA _ n;have a:∀j,j<8->eh wr (Zd og (k *8+j))=ai (.int .u8 (kB b[k].sum j)):=λj A=>(p.cellAt _ Yv).ag (ED z A);have A:=a 0 Yv;have J:=a 1 Yv;have K:=a 2 Yv;have R:=a 3 Yv;have S:=a 4 Yv;have T:=a 5 Yv;have U:=a 6 Yv;have e:=a 7 Yv;rw[Nat.add_zero]at A;have H:Aa wr d _:=t.box;have I:Hid (b.take (k+1)=b.take k++[b[k]]):=Zu hlt;have HS:=Yw (YB.snoc (x:=b[k]) c.2.2.1 y);unfold Ce CJ CG at gj;clear a z p n t;generalize b[k]=x at *
 have⟨a,n⟩:=Du wr (Yk (kB x.sum)) 160;have p:Below wr.1.size wr a:=by rw[n];exact Zy
 have F:a.1.size=wr.1.size+1:=by rw[n];simp
 have E:Aa a wr.1.size (AZ x.sum):=by rw[n];exact Aa.new wr (AZ x.sum) 160
 have t:Hid (∀X,Zz a X->eh X (Zd d 1)=ai (.map (ai m))/\(eh X (Zd (wr.1.size) 0)=ai (.int .u8 (kB x.sum 0))/\eh X (Zd (wr.1.size) 1)=ai (.int .u8 (kB x.sum 1))/\eh X (Zd (wr.1.size) 2)=ai (.int .u8 (kB x.sum 2))/\eh X (Zd (wr.1.size) 3)=ai (.int .u8 (kB x.sum 3))/\eh X (Zd (wr.1.size) 4)=ai (.int .u8 (kB x.sum 4))/\eh X (Zd (wr.1.size) 5)=ai (.int .u8 (kB x.sum 5))/\eh X (Zd (wr.1.size) 6)=ai (.int .u8 (kB x.sum 6))/\eh X (Zd (wr.1.size) 7)=ai (.int .u8 (kB x.sum 7)))/\(Instr.lookup 119 (.map (ai m)) (.agg (Yk (kB x.sum))) false).run prog X=.ok (.agg #[C0 x.sum,Zg x.born,C0 x.Q,Cw r x.C s]) X):=
  λX z=>⟨((H.A (p.ag (z.ah p.size))) 1 _ rfl).1,sk8 (z.block _ Yv) E,gj X (p.ag (z.ah p.size))⟩
 have C:Below a.1.size a a.drew:=Ae.drew;have D:∀o,Zz a (a.alloc o).drew:=λo=>(Zy).drew;obtain⟨z,Y,V⟩:=Yw n,Yw F,Yw p;clear n F gj E p H;go_upto_region 5 with fail;rw[<-z.o];clear z A J K R S T U e;go_region_held3 (λX=>eh X (Zd d 1)=ai (.map (ai m))/\(eh X (Zd (wr.1.size) 0)=ai (.int .u8 (kB x.sum 0))/\eh X (Zd (wr.1.size) 1)=ai (.int .u8 (kB x.sum 1))/\eh X (Zd (wr.1.size) 2)=ai (.int .u8 (kB x.sum 2))/\eh X (Zd (wr.1.size) 3)=ai (.int .u8 (kB x.sum 3))/\eh X (Zd (wr.1.size) 4)=ai (.int .u8 (kB x.sum 4))/\eh X (Zd (wr.1.size) 5)=ai (.int .u8 (kB x.sum 5))/\eh X (Zd (wr.1.size) 6)=ai (.int .u8 (kB x.sum 6))/\eh X (Zd (wr.1.size) 7)=ai (.int .u8 (kB x.sum 7)))/\(Instr.lookup 119 (.map (ai m)) (.agg (Yk (kB x.sum))) false).run prog X=.ok (.agg #[C0 x.sum,Zg x.born,C0 x.Q,Cw r x.C s]) X)
  (first|with_reducible exact t.o _ C|with_reducible exact t.o _ (D _))
  (fail)
 all_goals
  clear t C D;have⟨p,A⟩:=Ag ((a.alloc (.cells #[C0 x.sum,Zg x.born,C0 x.Q,Cw r x.C s] 50)).drew);have K:Below a.1.size a p:=by rw[A];exact(Zy).drew
  have C:Aa p a.1.size [C0 x.sum,Zg x.born,C0 x.Q,Cw r x.C s]:=by rw[A];exact Aa.new a _ _
  have F:=Y.o;have n:Below wr.1.size wr p:=V.ag (K.ah Yv);obtain⟨H,z,J⟩:=n.size,Aa.A c.1 n,Aa.A (v:=Zc) c.2.1 n;obtain⟨⟨R,f0⟩,⟨S,f1⟩,⟨T,f2⟩,⟨U,f3⟩,⟨k0,_⟩,⟨k1,_⟩,⟨k2,_⟩,k3,_⟩:=z 0 _ rfl,z 1 _ rfl,z 2 _ rfl,z 3 _ rfl,C 0 _ rfl,C 1 _ rfl,C 2 _ rfl,C 3 _ rfl;have j:¬w.1.size+1=a.1.size:=Yv;have o:¬a.1.size=w.1.size+1:=Yv;have D:Below w.1.size w p:=l.ag (n.ah Yv);have E:w.1.size+2<=p.1.size:=Yv;have t:=Yw (Zn z J);rw[<-A];clear A K C F n z J H;by_cases hx:x.born<h
  .have d1:bq (x.born<h)=true:=C9 hx;by_cases hu:u.born<x.born
   .have d2:bq (u.born<x.born)=true:=C9 hu;have n:Hid (YB (b.take k++[x]) h x r s):=HS.2.2 hx hu r s;clear HS hx hu;go_wp2;refine⟨⟨k+1,x,r,s,Yv,Yn,⟨?_,?_,by rw[I.o];exact n.o,?_,C9 E⟩⟩,Ys⟩
    .exact((((t.1.set 0 _).set 1 _).set 2 _).set 3 _)
    .exact Aa.same t.2 (by rw[Below.heap_setCell _ _ _ _ Yu,Below.heap_setCell _ _ _ _ Yu,Below.heap_setCell _ _ _ _ Yu,Below.heap_setCell _ _ _ _ Yu])
    exact(((D.setCell Yu _).setCell Yu _).setCell Yu _).setCell Yu _
   have d2:bq (u.born<x.born)=false:=C9 hu;have n:Hid (YB (b.take k++[x]) h u f g):=HS.2.1 hx hu;clear HS hx hu;go_wp2;exact⟨⟨k+1,u,f,g,Yv,Yn,⟨t.1,t.2,by rw[I.o];exact n.o,D,E⟩⟩,Ys⟩
  have d1:bq (x.born<h)=false:=C9 hx;have n:Hid (YB (b.take k++[x]) h u f g):=HS.1 hx;clear HS hx;go_wp2;exact⟨⟨k+1,u,f,g,Yv,Yn,⟨t.1,t.2,by rw[I.o];exact n.o,D,E⟩⟩,Ys⟩
