import Derived.Test.YtfmeclmjdpbacaaGreatDoorX05
import Derived.Laws.IdiomCopy
import Derived.Laws.NewBlocks
import Derived.Laws.AppendOwn
import Derived.Lib.AppendZerosOnto
import Derived.Lib.Overlaps
import Derived.Lib.Walk
set_option maxRecDepth 100000
set_option maxHeartbeats 16000000
open Option renaming some->ai,none->an
open Bool renaming true->ay,false->ba
open Decidable renaming decide->bq
open Go.Obj renaming cells->bs
open Go.Value renaming slice->bx,agg->ca,pointer->ea,bool->ec,ownBlock->ef
open Or renaming inl->cr,inr->ct
open List renaming length->ed,toArray->ee
open Go.World renaming cell?->eh,frozen?->ei,ownsRow->ej,grownBy->ek,setCell->el
open Go renaming maxLen->eo
namespace Go.Proofs.YtfmeclmjdpbacaaGreatDoor
open ChangeShapes WideShapes ChangeAt RowKit _root_.Go.Proofs.Tryz List World Value
variable{w:Zh}{b size i d k m l j g h H bt:Nat}{e:TypeId}{v O L P zv:Value}{n c f a r p q C:Int}{A:Type}{x:Pd}{t B:C6}{u o:C5}{z:C7}{s:Zi}
theorem Kt{n:Nat}{c:Zj}(h:ej w b e size v n c)(f:0<n):∃g a,v=Yz g n a:=by
 rcases h.2 with⟨_,i⟩|⟨g,a,d,rfl,_⟩
 .omega
 exact⟨g,a,rfl⟩
theorem Kq.at{f:C6}(h:Kq f n i)(l:∃x∈f,x.M=n)(c:f.Pairwise (λa b=>a.M<b.M)):∃x,f[i]?=ai x/\x.M=n:=by
 obtain⟨x,o,r⟩:=l;have⟨j,g⟩:=A3 o;have k:=(Zw g).1;have p:i=j:=by
  rcases Nat.lt_trichotomy i j with d|d|d
  .have q:=h.hi i f[i] (Zx) (Zv Yv);obtain⟨m,_,e⟩:=pairwise_iff_getElem.1 c i j Yv k d,Zw g;rw[e]at m;omega
  .exact d
  have:=h.lo j x d g;omega
 exact gA
theorem Ep.at{f:C7}{n:Zi}(h:Ep f n i)(p:∃x∈f,x.name=n)(c:f.Pairwise (λa b=>less a.name b.name=ay)):∃x,f[i]?=ai x/\x.name=n:=by
 obtain⟨x,q,m⟩:=p;have⟨j,g⟩:=A3 q;have o:=(Zw g).1;have r:i=j:=by
  rcases Nat.lt_trichotomy i j with d|d|d
  .have k:=h.hi i f[i] (Zx) (Zv Yv);obtain⟨l,_,e⟩:=pairwise_iff_getElem.1 c i j Yv o d,Zw g;rw[e,m]at l;rw[l]at k;cases k
  .exact d
  have:=h.lo j x d g;rw[m,Cz]at this;cases this
 exact gA
def Bz(ls:List Ld)(n:Int):List Ld:=ls.filter (fun x=> !bq (x.M=n))
def Bf(ps:List Pd)(n:Zi):List Pd:=ps.filter (fun x=> !bq (x.name=n))
theorem Ie{q:A->Bool}:∀{xs:List A} {i:Nat} {x:A},xs[i]?=ai x->q x=ba->(∀j y,xs[j]?=ai y->j≠i->q y=ay)->xs.filter q=xs.eraseIdx i
 |[],i,x,hx,_,_=>by simp at hx
 |y::ys,0,x,hx,hq,ho=>by
  simp only[getElem?_cons_zero,Option.some.injEq]at hx;subst hx;rw[filter_cons,hq,eraseIdx_cons_zero];simp only[Bool.false_eq_true,if_false];exact filter_eq_self.2 (λz b=>by
   have⟨j,a⟩:=A3 b;exact ho (j+1) z (C9 a) Yv)
 |y::ys,i+1,x,hx,hq,ho=>by have b:=ho 0 y Yu Yv;rw[filter_cons,b,eraseIdx_cons_succ];simp only[if_true];rw[Ie (i:=i) (x:=x) gA hq (λj z a c=>ho (j+1) z Yt Yv)]
theorem QX{d:C6}{x:Ld}(g:d[i]?=ai x)(p:x.M=n)(c:d.Pairwise (λa b=>a.M<b.M)):Bz d n=d.eraseIdx i:=by
 refine Ie g Yt (λj y m o=> ?_);obtain⟨e,f,⟨_,k⟩,_,l⟩:=(Zw g).1,(Zw m).1,Zw g,Zw m;rcases Nat.lt_or_gt_of_ne o with h|h
 .have:=pairwise_iff_getElem.1 c j i f e h;rw[k,l]at this;simp;omega
 have:=pairwise_iff_getElem.1 c i j e f h;rw[k,l]at this;simp;omega
theorem PR{d:C7}{n:Zi}(l:d[i]?=ai x)(p:x.name=n)(c:d.Pairwise (λa b=>less a.name b.name=ay)):Bf d n=d.eraseIdx i:=by
 refine Ie l Yt (λj y f q=> ?_);obtain⟨g,k,⟨_,m⟩,_,o⟩:=(Zw l).1,(Zw f).1,Zw l,Zw f;have f:y.name≠n:=λe=>by
  rcases Nat.lt_or_gt_of_ne q with h|h
  .have:=pairwise_iff_getElem.1 c j i k g h;rw[m,o,e,p,Cz]at this;cases this
  have:=pairwise_iff_getElem.1 c i j g k h;rw[m,o,e,p,Cz]at this;cases this
 simpa using f
theorem Wi{j d m:Nat}{O P L:Dg}{G v k c:Int}{E:C5}{F:C7}{f:C6}(n:Int){w:Zh}(h:DU w j d m O P L G v k c E F f)(S:ed f<=200)(l:f.Pairwise (λa b=>a.M<b.M))(p:∃x∈f,x.M=n):
 D4 181 #[ea (ai ⟨d,0,an⟩),Zg n] w λe o=>e=C1 (.tuple #[])/\∃D,DU o j d m O P D G v k c E F (Bz f n)/\Tn (d::(ef L).toList) w o:=by
 have z:0<ed f:=by obtain⟨x,R,_⟩:=p;exact length_pos_of_mem R
 have⟨g,o,K⟩:=Kt h.R.di z;subst K;have H:Hid _:=h;have s:Hid _:=l;have A:Hid _:=p;have HS:Hid _:=IE g o n h.R.di Lh l;obtain⟨N,_⟩:=h.R.box 7 _ rfl;clear h l p;delta D4;go_in;go_wp2_with fail;refine HS.Ak ?_;rintro e I ⟨i,rfl,C,t⟩;have⟨x,r,u⟩:=C.at A s;have l:bq (∃x,f[i]?=ai x/\x.M=n)=ay:=by simpa using ⟨x,r,u⟩
 have B:=(Zw r).1;have M:Hid _:=QX r u s;have q:=H.A t;have p:Hid _:=q;have J:Hid _:=t;have y:Hid _:=Nf (ct (cr ⟨rfl,rfl,rfl,rfl⟩)) Em VW g o i f q.R.di Lh B;obtain⟨Q,_⟩:=q.R.box 7 _ rfl;rw[l];clear l r u C q t H HS A s N;go_wp2_with fail;refine y.Ak ?_;rintro e s ⟨rfl,u,q⟩;have t:∀b,ef (Cx (ai ⟨g,0,an⟩) (ed f -1) o)=ai b->b≠d:=λb r=>((DI p.R.ap).2.2.2 b r).1;have l:=Aa.same p.R.box (q.block d p.R.box.lt (λe=>t g rfl (A2 e).symm));obtain⟨H,N⟩:=l 7 _ rfl;have A:∃D,DU (el s (Zd d 7) (Cx (ai ⟨g,0,an⟩) (ed f -1) o)) j d m O P D G v k c E F (Bz f n)/\Tn (d::(ef (Cw (ai ⟨g,0,an⟩) f o)).toList) w (el s (Zd d 7) (Cx (ai ⟨g,0,an⟩) (ed f -1) o)):=by
  have C:Tn (d::(ef (Cw (ai ⟨g,0,an⟩) f o)).toList) I (el s (Zd d 7) (Cx (ai ⟨g,0,an⟩) (ed f -1) o)):=
   ((CX q).ah (by intro b r;simp[ownBlock]at r |-;exact ct r)).ag ((Bi s d 7 _).ah Kg)
  refine⟨_,p.ja C (l.set 7 _) ?_ (cr rfl),(Tn.of J).ag C⟩;rw[M.o,length_eraseIdx,if_pos B];exact BU u t 7 _
 have D:Hid _:=A;clear A u q l Q;go_wp2;go_end0;exact⟨rfl,D⟩
theorem Ku(g o:Nat){y t l j:Int}{f:C7}{v:C6}(n:Zi)(h:DU w k d m O (Yz g (ed f) o) L y t l j u f v)(z:ed f<=200)(c:f.Pairwise (λa b=>less a.name b.name=ay)):
 D4 215 #[Yy d,C0 n] w λe p=>∃i:Nat,e=C1 (.tuple #[Zg i,ec (bq (∃x,f[i]?=ai x/\x.name=n))])/\Ep f n i/\Zz w p:=by
 obtain⟨HS,c6,_⟩:=Yw (JW g o n h.R.co Yv c),h.R.box 6 _ rfl;clear h c;delta D4;go_in;go_wp2_with fail;refine HS.Ak ?_;rintro e A ⟨i,rfl,s,r⟩;have⟨p,c⟩:∃p,bq (∃x,f[i]?=ai x/\x.name=n)=p:=⟨_,rfl⟩;have q:=Yw c;rw[c];clear c;go_wp2
 go_ret2
 exact⟨i,by rw[q.o];rfl,s,r⟩
theorem Ur{k d m:Nat}{O P L:Dg}{A s f c:Int}{y:C5}{j:C7}{z:C6}(n:Zi){w:Zh}(h:DU w k d m O P L A s f c y j z)(Q:ed j<=200)(l:j.Pairwise (λa b=>less a.name b.name=ay))(p:∃x∈j,x.name=n):
 D4 180 #[ea (ai ⟨d,0,an⟩),C0 n] w λe o=>e=C1 (.tuple #[])/\∃G,DU o k d m O G L A s f c y (Bf j n) z/\Tn (d::(ef P).toList) w o:=by
 have C:0<ed j:=by obtain⟨x,R,_⟩:=p;exact length_pos_of_mem R
 have⟨g,o,K⟩:=Kt h.R.co C;subst K;have H:Hid _:=h;have t:Hid _:=l;have D:Hid _:=p;have HS:Hid _:=Ku g o n h Q l;clear h l p;delta D4;go_in;go_wp2_with fail;refine HS.Ak ?_;rintro e I ⟨i,rfl,F,u⟩;have⟨x,r,v⟩:=F.at D t;have l:bq (∃x,j[i]?=ai x/\x.name=n)=ay:=by simpa using ⟨x,r,v⟩
 have E:=(Zw r).1;have M:Hid _:=PR r v t;have q:=H.A u;have p:Hid _:=q;have J:Hid _:=u;have B:Hid _:=Nf (cr ⟨rfl,rfl,rfl,rfl⟩) ES Su g o i j q.R.co Lh E;obtain⟨N,_⟩:=q.R.box 6 _ rfl;rw[l];clear l r v F q u H HS D t;go_wp2_with fail;refine B.Ak ?_;rintro e t ⟨rfl,v,q⟩;have u:∀b,ef (Cx (ai ⟨g,0,an⟩) (ed j -1) o)=ai b->b≠d:=λb r=>((DI p.R.ap).2.2.1 b r).1;have l:=Aa.same p.R.box (q.block d p.R.box.lt (λe=>u g rfl (A2 e).symm));obtain⟨H,S⟩:=l 6 _ rfl;have D:∃G,DU (el t (Zd d 6) (Cx (ai ⟨g,0,an⟩) (ed j -1) o)) k d m O G L A s f c y (Bf j n) z/\Tn (d::(ef (Cw (ai ⟨g,0,an⟩) j o)).toList) w (el t (Zd d 6) (Cx (ai ⟨g,0,an⟩) (ed j -1) o)):=by
  have F:Tn (d::(ef (Cw (ai ⟨g,0,an⟩) j o)).toList) I (el t (Zd d 6) (Cx (ai ⟨g,0,an⟩) (ed j -1) o)):=
   ((CX q).ah (by intro b r;simp[ownBlock]at r |-;exact ct r)).ag ((Bi t d 6 _).ah Kg)
  refine⟨_,p.jd F (l.set 6 _) ?_ (cr rfl),(Tn.of J).ag F⟩;rw[M.o,length_eraseIdx,if_pos E];exact BU v u 6 _
 have G:Hid _:=D;clear D v q l N;go_wp2;go_end0;exact⟨rfl,G⟩
def AQ(ls:List Ld)(n:Int):List Ld:=ls.filter (fun x=> !bq (x.ci<=n))
theorem NW(x:Ld)(b d:Nat)(n:Int)(w:Zh)(f:eh w (Zd b 0)=ai (Yy d))(g:eh w (Zd d 2)=ai (Zg n)):
 D4 223 #[ca #[Zg x.M,C0 x.sum,Zg x.ci],Yy b] w λe a=>e=C1 (ec (bq (x.ci<=n)))/\Zz w a:=by
 have⟨W,a⟩:=Du w #[Zg x.M,C0 x.sum,Zg x.ci] 112;have c:=(Av a).1;have i:eh W (Zd (w.1.size) 2)=ai (Zg x.ci):=by rw[a];simp[go_sem]
 obtain⟨j,k,h⟩:=(c.cell (p:=⟨b,0,an⟩) (A4 w _ f)).ag f,(c.cell (p:=⟨d,2,an⟩) (A4 w _ g)).ag g,Yw a;clear a f g;delta D4;go_in;go_upto_region 1 with fail;rw[<-h.o];have f:=Yw c;cases hbb:bq (x.ci<=n)
 all_goals
  have a:=Yw hbb;go_region_with fail
  all_goals
   go_wp2;go_ret;exact⟨by rw[a.o];rfl,f.drew⟩
def Aag(ls:List Ld)(n r:Int):Prop:=(r= -1/\∀x∈ls,n<x.ci)\/∃(i:Nat) (x:Ld),r=i/\ls[i]?=ai x/\x.ci<=n/\∀j y,j<i->ls[j]?=ai y->n<y.ci
theorem JX(a:Zk)(t b d:Nat)(n:Int)(f:C6)(w:Zh)(l:Ba w w.1.size a f)(O:ed f<=1048576)(o:eh w (Zd b 0)=ai (Yy d))(s:eh w (Zd d 2)=ai (Zg n)):
 D4 229 #[Cx a (ed f) t,.func (.func 223) #[] #[Yy b]] w λe c=>∃r:Int,e=C1 (Zg r)/\Aag f n r/\Zz w c:=by
 have v:=A4 w _ o;have A:=A4 w _ s;delta D4;go_in;go_wp2;go_loopw [8] (λi wr=>∃k:Nat,k<=ed f/\i=Zg k/\Hid (∀j x,j<k->f[j]?=ai x->n<x.ci)/\Zz w wr) (λi _=>ed f -(intOf i).toNat)
 case atStart=>exact⟨0,Aw _,rfl,(λj x h=>Yv),Ae⟩
 obtain⟨k,N,rfl,g,c⟩:=hrel;have C:=c.size;by_cases hlt:k<ed f
 .obtain⟨I,H,F,M,m⟩:=(l.A c).at hlt;subst F;have q:=Yw (Zv hlt);obtain⟨⟨J,K,L⟩,z,B⟩:=m k _ q,(c.cell (p:=⟨b,0,an⟩) v).ag o,(c.cell (p:=⟨d,2,an⟩) A).ag s;clear m l;generalize f[k]=x at *
  go_wp2_with fail;refine(NW x b d n wr z B).ah ?_;rintro e P ⟨rfl,u⟩;have m:=c.ag (u.ah C);by_cases h:x.ci<=n
  .have l:bq (x.ci<=n)=ay:=Yt;have E:=Yw h;rw[l];clear h l;go_wp2;go_ret;exact⟨_,rfl,ct ⟨k,x,rfl,q,E,g⟩,m⟩
  have D:Hid (∀j y,j<k+1->f[j]?=ai y->n<y.ci):=gH;have l:bq (x.ci<=n)=ba:=Yt;rw[l];clear h l;go_wp2;exact⟨⟨k+1,Yv,Yn,D,m⟩,Ys⟩
 go_wp2;go_ret;refine⟨_,rfl,cr ⟨rfl,λx G=> ?_⟩,c⟩;obtain⟨j,l,rfl⟩:=getElem_of_mem G;exact g j _ Yv (Zv l)
theorem Us(k:Nat):∀v∈(Builtin.zeroCells #[Ze,Zc,Ze] k).toList,v.oneCell'=ay:=by
 intro v a;simp only[Builtin.zeroCells,Array.toList_map,mem_map]at a;obtain⟨i,_,rfl⟩:=a;have b:i%3=0\/i%3=1\/i%3=2:=Yv;show(#[int .i64 0,Zc,Ze][i%3]!).oneCell'=ay;rcases b with h|h|h<;>rw[h]<;>rfl
theorem LS(w:Zh)(g:TypeId)(b o k c:Nat)(l:0<k)(h:∀j,j<k *3->(eh w (Zd b (o+j))).isSome=ay)(i:∀j,j<k *3->ei w ⟨b,o+j,an⟩=ba):
 (Builtin.clear_ #[28] g #[Cx (ai ⟨b,o,an⟩) k c]).run prog w=.ok (.tuple #[]) (w.setCells b o (Builtin.zeroCells #[Ze,Zc,Ze] k).toList):=by
 have m:ed (Builtin.zeroCells #[Ze,Zc,Ze] k).toList=k *3:=by rw[Array.length_toList,size_zeroCells];rfl
 have a:=run_storeCells_cells (P:=prog) b o (Builtin.zeroCells #[Ze,Zc,Ze] k).toList 0 w gA gA (Us k);simp only[Nat.add_zero]at a;have f:=Uq;have e:(agg #[Ze,Zc,Ze]).cells= #[Ze,Zc,Ze]:=rfl;obtain⟨d,rfl⟩:∃d,k=d+1:=⟨k -1,Yv⟩;simp[Builtin.clear_,run_underlying underlying28,f,e,a]
theorem Wj{a n:Nat}{c:C6}(h:ej w a 112 3 (Yz g n b) n (Af lC c))(j:i<ed c)(y:Ld):ej (el (el (el w (Zd g (i *3)) (Zg y.M)) (Zd g (i *3+1)) (C0 y.sum)) (Zd g (i *3+2)) (Zg y.ci)) a 112 3 (Yz g n b) n (Af lC (c.set i y)):=by have e:=(h.stored (i *3) (Zg y.M)).1;have f:=(e.stored (i *3+1) (C0 y.sum)).1;have d:=(f.stored (i *3+2) (Zg y.ci)).1;rw[PQ j y]at d;exact d
structure FZ (ls cur:List Ld) (n:Int) (i j:Nat):Prop where
 len:ed cur=ed ls
 kept:cur.take i=AQ (ls.take j) n
 rest:cur.drop j=ls.drop j
 lt:i<j
 le:j<=ed ls
theorem FZ.start{a:C6}{x:Ld}(c:a[i]?=ai x)(k:x.ci<=n)(h:∀j y,j<i->a[j]?=ai y->n<y.ci):FZ a a n i (i+1):=by
 have d:=(Zw c).1;have⟨_,e⟩:=Zw c;refine⟨rfl,?_,rfl,Yv,Yv⟩;unfold AQ;rw[Zu d,filter_append,e];have g:(a.take i).filter (λx=> !bq (x.ci<=n))=a.take i:=filter_eq_self.2 (λy f=>by
  have⟨j,b⟩:=A3 f;have f:=(Zw b).1;rw[Cl]at f;have:=h j y Yv (by rw[getElem?_take_of_lt Yv]at b;exact b);simp;omega)
 rw[g];simp[k]
theorem FZ.at{b a:C6}(h:FZ b a n i j)(c:j<ed b):a[j]?=ai b[j]:=by have:=congrArg (λl=>l[0]?) h.rest;simp only[getElem?_drop,Nat.add_zero]at this;rw[this,Zv c]
theorem FZ.skip{a b:C6}(h:FZ a b n i j)(c:j<ed a)(d:a[j].ci<=n):FZ a b n i (j+1):=by
 refine⟨h.len,?_,?_,C8 h.lt,Yv⟩
 .rw[h.kept];unfold AQ;rw[Zu c,filter_append];simp[d]
 have:=congrArg (List.drop 1) h.rest;rw[drop_drop,drop_drop]at this;exact this
theorem FZ.move{a b:C6}(h:FZ a b n i j)(d:j<ed a)(g:n<a[j].ci):FZ a (b.set i a[j]) n (i+1) (j+1):=by
 have f:=h.lt;have hlen:=h.len;have e:i<ed b:=Yv;refine⟨by rw[length_set];exact hlen,?_,?_,Yv,Yv⟩
 .have c:¬a[j].ci<=n:=Yv;rw[Zu Yt,take_set_of_le (Zx),h.kept,getElem_set_self];unfold AQ;rw[Zu d,filter_append];simp[c]
 have:=congrArg (List.drop 1) h.rest;rw[drop_drop,drop_drop]at this;rw[drop_set_of_lt Yv];exact this
theorem FZ.done{a b:C6}(h:FZ a b n i (ed a)):b.take i=AQ a n/\ed (AQ a n)=i:=by have c:=h.kept;rw[Zt (Zx)]at c;refine⟨c,?_⟩;rw[<-c,Cl];have:=h.lt;have:=h.len;omega
theorem Ni(g p:Nat)(b d:Nat)(n:Int)(a:C6)(Q:ej w m 112 3 (Yz g (ed a) p) (ed a) (Af lC a))(hl:ed a<=200)(S:eh w (Zd b 0)=ai (Yy d))(T:eh w (Zd d 2)=ai (Zg n))(Y:b≠g)(zA:d≠g):
 D4 222 #[Yz g (ed a) p,.func (.func 223) #[] #[Yy b]] w λe c=>e=C1 (Yz g (ed (AQ a n)) p)/\ej c m 112 3 (Yz g (ed (AQ a n)) p) (ed (AQ a n)) (Af lC (AQ a n))/\ek w c (ai g):=by
 have E:ed a<=p/\p<=eo:=by
  rcases Q.2 with⟨e,_⟩|⟨g',zE,f,e,hb,hg,h1,h2,h3,h4⟩
  .cases e
  cases e;exact⟨h1,h2⟩
 obtain⟨zH,Z⟩:=E;unfold eo at Z;have HX:=Yw (JX (ai ⟨g,0,an⟩) p b d n a w (Ba.own Q) Yv S T);have HO:=Yw Q;have HC:Hid (∀X,ek w X (ai g)->eh X (Zd b 0)=ai (Yy d)/\eh X (Zd d 2)=ai (Zg n)):=λX c=>⟨c.cell S (λe=>Y (A2 e)),c.cell T (λe=>zA (A2 e))⟩;delta D4;go_in;go_wp2_with fail;refine HX.Ak ?_;rintro e U ⟨r,rfl,hr,K⟩;have H:Hid (ej U m 112 3 (Yz g (ed a) p) (ed a) (Af lC a)):=Ai HO K;have G:Hid (ek w U (ai g)):=Al _ K;rcases hr with⟨rfl,D⟩|⟨i,x,rfl,zB,zC,X⟩
 .have HE:Hid (AQ a n=a):=filter_eq_self.2 (λy c=>by have:=D y c;simp;omega);go_wp2;go_ret;rw[HE.o];exact⟨rfl,H,G⟩
 have HM:Hid (FZ a a n i (i+1)):=FZ.start zB zC X;have zI:((i:Int)== -1)=ba:=Yu;have N:i<ed a:=gG;go_wp2;go_loopw [5,6] (λq s wr=>∃(c l:Nat) (f:C6),q=Zg c/\s=Zg l/\c<l/\l<=ed a/\Hid (FZ a f n c l/\ej wr m 112 3 (Yz g (ed a) p) (ed a) (Af lC f)/\ek w wr (ai g))) (λ_ j _=>ed a -(intOf j).toNat)
 case atStart=>exact⟨i,i+1,a,rfl,Yn,Yv,Yv,HM,H,G⟩
 obtain⟨c,l,f,rfl,rfl,zJ,zK,q⟩:=hrel;by_cases hlt:l<ed a
 .have O:Hid (f[l]?=ai a[l]):=q.1.at hlt;have zG:Hid (a[l].ci<=n->FZ a f n c (l+1)):=λh=>q.1.skip hlt h;have zF:Hid (n<a[l].ci->FZ a (f.set c a[l]) n (c+1) (l+1)):=λh=>q.1.move hlt h;have L:ed f=ed a:=q.1.len;generalize a[l]=x at *
  have s:∀k,k<3->eh wr (Zd g (l *3+k))=(lC x)[k]?:=λk C=>(q.2.1.cellAt (l *3+k) Yv).ag (Cy Em O C);have c0:eh wr (Zd g (l *3))=ai (Zg x.M):=by simpa [lC]using s 0 Yq
  have c1:eh wr (Zd g (l *3+1))=ai (C0 x.sum):=by simpa [lC]using s 1 Yq
  have c2:eh wr (Zd g (l *3+2))=ai (Zg x.ci):=by simpa [lC]using s 2 Yq
  have⟨W,t⟩:=Du wr #[Zg x.M,C0 x.sum,Zg x.ci] 112;have B:=(Av t).1;have F:=(Av t).2.2;have R:Hid (Aa W _ _):=(Av t).2.2;have u:ek w W (ai g):=AF q.2.2 (Al _ B);have I:Hid (ej W m 112 3 (Yz g (ed a) p) (ed a) (Af lC f)/\ek w W (ai g)):=⟨Ai q.2.1 B,u⟩;have⟨z,A⟩:=HC W u;have y:=NW x b d n W z A;have HW:=Yw t;clear t s B F u z A q;go_upto_region 8 with fail;rw[<-HW.o];obtain⟨z0,z1,z2⟩:=Aa.c3 R 0 1 2;go_wp2_with fail;refine y.ah ?_;rintro e u ⟨rfl,z⟩;have s:Hid (ej u m 112 3 (Yz g (ed a) p) (ed a) (Af lC f)/\ek w u (ai g)):=⟨Ai I.1 z,AF I.2 (Al _ z)⟩;have V:=Aa.A R z;by_cases ht:x.ci<=n
  .have P:bq (x.ci<=n)=ay:=Yt;have HS:Hid (FZ a f n c (l+1)):=gA;rw[P];go_wp2;exact⟨⟨c,l+1,f,rfl,Yn,Yv,Yv,HS,s.1,s.2⟩,Ys⟩
  have P:bq (x.ci<=n)=ba:=Yt;have HS:Hid (FZ a (f.set c x) n (c+1) (l+1)):=gA;have N:c<ed f:=Yv;have F:=Wj s.1 N x;have A:∀o,ei u ⟨g,o,an⟩=ba:=λo=>s.1.frozenAt o;have B:∀k,k<3->∃v,eh u (Zd g (c *3+k))=ai v:=λk C=>⟨_,(s.1.cellAt (c *3+k) Yv).ag (Zv (by rw[CF Em];omega))⟩;have⟨v0,v⟩:=B 0 Yq;have⟨v1,s1⟩:=B 1 Yq;have⟨v2,s2⟩:=B 2 Yq;rw[Nat.add_zero]at v;obtain⟨q0,q1,q2⟩:=A (c *3),A (c *3+1),A (c *3+2);have t:=Yw (Zn F (AF s.2 (AF (AF (Ao u g (c *3) (Zg x.M)) (Ao _ g (c *3+1) (C0 x.sum))) (Ao _ g (c *3+2) (Zg x.ci)))));obtain⟨z0,z1,z2⟩:=Aa.c3 V 0 1 2;rw[P];go_wp2;exact⟨⟨c+1,l+1,f.set c x,Yn,Yn,Yv,Yv,HS,t.1,t.2⟩,Ys⟩
 obtain rfl:l=ed a:=Yv;have⟨h,zM⟩:=q.1.done;have L:ed f=ed a:=q.1.len;have o:Hid (ed (AQ a n)=c/\f.take c=AQ a n):=gH;have hO:=q.2.1;have O:Hid (ek w wr (ai g)):=gH;have hcut:ej wr m 112 3 (Yz g c p) c (Af lC (AQ a n)):=by rw[<-h];have J:=hO;rw[<-L]at J;exact PG Em J c Yv
 have M:∀j,j<(ed a -c) *3->(eh wr (Zd g (c *3+j))).isSome=ay/\ei wr ⟨g,c *3+j,an⟩=ba:=λj C=>by refine⟨?_,hO.frozenAt _⟩;rw[hO.cellAt (c *3+j) Yv,Zv (by rw[CF Em];omega)];rfl
 have k:=LS wr 0 g (c *3) (ed a -c) (p -c) Yv (λj C=>(M j C).1) (λj C=>(M j C).2);have C:=Yw hcut;go_wp2;go_ret;rw[o.1];exact⟨rfl,LQ _ _ _ C (Zx),AF O (EF g _ _ _)⟩
theorem Nj(a:Zk)(c b d:Nat)(n:Int)(w:Zh)(j:eh w (Zd b 0)=ai (Yy d))(k:eh w (Zd d 2)=ai (Zg n)):
 D4 222 #[Cx a 0 c,.func (.func 223) #[] #[Yy b]] w λe f=>e=C1 (Cx a 0 c)/\Zz w f:=by
 have h:=Yw (JX a c b d n [] w (cr rfl) Yu j k);delta D4;go_in;go_wp2_with fail;refine h.Ak ?_;rintro e m ⟨r,rfl,l,f⟩;rcases l with⟨rfl,_⟩|⟨i,x,_,g,_⟩
 .go_wp2;go_ret;exact⟨rfl,f⟩
 simp at g
theorem QY(b d:Nat)(n:Int)(f:C6)(l:ej w h 112 3 L (ed f) (Af lC f))(t:ed f<=200)(j:eh w (Zd b 0)=ai (Yy d))(k:eh w (Zd d 2)=ai (Zg n))(o:ef L≠ai b)(p:ef L≠ai d):
 D4 222 #[L,.func (.func 223) #[] #[Yy b]] w λe i=>∃a c,e=C1 (Cx a (ed (AQ f n)) c)/\ej i h 112 3 (Cx a (ed (AQ f n)) c) (ed (AQ f n)) (Af lC (AQ f n))/\ek w i (ef L)/\ef (Cx a (ed (AQ f n)) c)=ef L:=by
 rcases l.2 with⟨rfl,u⟩|⟨g,m,v,rfl,_⟩
 .have:f=[]:=A9 u;subst this;refine(Nj an 0 b d n w j k).ah ?_;rintro e i ⟨rfl,s⟩;exact⟨an,0,rfl,ownsRow_nil _ _ _ _,Al _ s,rfl⟩
 refine(Ni g m b d n f l t j k (λe=>o (by rw[e];rfl)) (λe=>p (by rw[e];rfl))).ah ?_;rintro e i ⟨rfl,q,r⟩;exact⟨_,_,rfl,q,r,rfl⟩
theorem Wk{o d m:Nat}{O P L:Dg}{q j l i:Int}{z:List Kd}{A:List Pd}{k:List Ld}(f:Int){w:Zh}(h:DU w o d m O P L q j l i z A k)(hl:ed k<=200)(S:0<=j)(T:0<=f)(hs:j+f<=1000000000):
 D4 182 #[ea (ai ⟨d,0,an⟩),.int .i64 f] w λe s=>e=.returned (.tuple #[])/\∃E,DU s o d m O P E q (j+f) l i z A (AQ k (j+f))/\Tn (d::(ef L).toList) w s:=by
 have⟨p,n,Q⟩:=AB h.R.di;subst Q;obtain⟨zA,W,x⟩:=h.R.box.lt,Du w #[ea (ai ⟨d,0,an⟩)] 90;have F:=(Av x).1;obtain⟨K,r,X,y⟩:=(Av x).2.2,h.A F,Ag (el W ⟨d,2,an⟩ (.int .i64 (j+f)));have G:Tn [d] W X:=by rw[y];exact Bi _ _ _ _
 have v:Aa X d [.int .i64 q,.map (ai m),.int .i64 (j+f),.int .i64 l,.int .i64 i,O,P,bx p (ed k) n]:=by rw[y];exact r.R.box.set 2 _
 have I:Aa X w.1.size [ea (ai ⟨d,0,an⟩)]:=gC;have R:∀g,ef (slice p (ed k) n)=ai g->g≠d:=λg t=>((DI h.R.ap).2.2.2 g t).1;have D:ej X o 112 3 (bx p (ed k) n) (ed k) (Af lC k):=Ar r.R.di (λg t=>G.block g (Ab r.R.di t).2 gA);have B:ef (slice p (ed k) n)≠ai w.1.size:=λe=>C8 (Ab h.R.di e).2;have C:ef (slice p (ed k) n)≠ai d:=gG;have V:Hid (∀Y,Zz X Y->D4 222 #[bx p (ed k) n,.func (.func 223) #[] #[ea (ai ⟨w.1.size,0,an⟩)]] Y λe s=>∃a c,e=.returned (bx a (ed (AQ k (j+f))) c)/\ej s o 112 3 (bx a (ed (AQ k (j+f))) c) (ed (AQ k (j+f))) (Af lC (AQ k (j+f)))/\ek Y s (ef (slice p (ed k) n))/\ef (slice a (ed (AQ k (j+f))) c)=ef (slice p (ed k) n)):=λY s=>
  QY w.1.size d (j+f) k (Ai D s) hl ((Aa.A I s) 0 _ rfl).1 ((v.A s) 2 _ rfl).1 B C
 have U:Hid (DU W o d m O P (bx p (ed k) n) q j l i z A k):=r;have M:Hid (Zz w W):=F;have N:Hid (Tn [d] W X):=G;have t:Hid (Aa X d [.int .i64 q,.map (ai m),.int .i64 (j+f),.int .i64 l,.int .i64 i,O,P,bx p (ed k) n]):=v;have u:Hid (Aa X w.1.size [ea (ai ⟨d,0,an⟩)]):=I;have s:Hid _:=x;have J:Hid _:=y;obtain⟨⟨H,_⟩,Z,a⟩:=K 0 _ rfl,r.R.box 2 _ rfl;have g:IntKind.i64.wrap (j+f)=j+f:=Ib S Yv T Yv;have c:¬(1000000000<j+f):=Yv;clear h F K r y x G v I D;delta D4;go_in;go_upto_region 1 with fail;rw[<-s.o];clear s;go_upto_region 4 with fail;rw[<-J.o];clear J H Z a;have I:Below X.1.size X X.drew:=gB;obtain⟨⟨H,_⟩,Z,_⟩:=u 0 _ rfl,t 7 _ rfl;go_region_with (go_at_call 222;refine Calls.mono (V X.drew I) ?_;rintro e s ⟨F,G,rfl,x,r,y⟩;have v:Aa s d [.int .i64 q,.map (ai m),.int .i64 (j+f),.int .i64 l,.int .i64 i,O,P,bx p (ed k) n]:=Aa.same t (r.block d t.lt (λe=>C e.symm));have D:Aa s w.1.size [ea (ai ⟨d,0,an⟩)]:=Aa.same u (r.block w.1.size u.lt (λe=>B e.symm));obtain⟨g7,k7⟩:=v 7 _ rfl;obtain⟨y0,_⟩:=D 0 _ rfl)
 all_goals
  have J:∃E,DU (el s ⟨d,7,an⟩ (bx F (ed (AQ k (j+f))) G)) o d m O P E q (j+f) l i z A (AQ k (j+f))/\Tn (d::(ef (slice p (ed k) n)).toList) w (el s ⟨d,7,an⟩ (bx F (ed (AQ k (j+f))) G)):=by
   have K:Tn (d::(ef (slice p (ed k) n)).toList) W (el s ⟨d,7,an⟩ (bx F (ed (AQ k (j+f))) G)):=
    ((N.ah Yu).ag ((Tn.of I).ag ((CX r).ah (λb E=>mem_cons_of_mem _ E)))).ag ((Bi s d 7 _).ah Yu)
   exact⟨_,U.ja K (v.set 7 _) (BU x (λb E=>R b (y▸E)) 7 _) (cr y),(Tn.of M).ag K⟩
  have E:Hid _:=J;clear J x r v D H Z;go_wp2;go_end0;exact⟨rfl,E⟩
theorem KW{j b:Int}{c:C5}{x:C6}(s:Zi)(i:Dr w g d m O P L j r b a c z x)(q:∀k∈c,(k.sum.size:Int)=j)(A:¬As c s):
 D4 212 #[Yy d,C0 s] w λe h=>e=.panicked [{v:=bk 2 ⟨#[]⟩ ⟨#[]⟩,recovered:=ba}]/\Zz w h:=by
 have⟨n,f,D,o,l⟩:=i.map;have⟨y,p,h⟩:=Kl f s o l.holds q;have u:y=ba:=gA;subst u;obtain⟨B,C⟩:=Aa.c2 i.box 0 1;have t:=Yw (h w Ae);clear i o l p h;delta D4;go_in;go_wp2_with fail;refine t.Ak ?_;rintro e i ⟨rfl,h⟩;go_wp2;exact⟨rfl,rfl,h⟩
theorem PS{c:Nat}{l b:Int}{g:C5}{p:C7}{o:C6}(s:Zi)(f:Int)(h:DU w c d m O P L n l b a g p o)(i:∀k∈g,(k.sum.size:Int)=n)(j:¬As g s):
 D4 178 #[Yy d,C0 s,Zg f] w λe q=>e=.panicked [{v:=bk 2 ⟨#[]⟩ ⟨#[]⟩,recovered:=ba}]/\Zz w q:=by
 have HN:=Yw (KW s h.R i j);clear h i j;delta D4;go_in;go_wp2_with fail;refine HN.Ak ?_;rintro e j ⟨rfl,i⟩;go_wp2;exact⟨rfl,rfl,i⟩
theorem NX{b:Int}{r:C7}{j:C6}(l:Int)(h:DU w i d m O P L q p a b o r j)(f:∀k∈o,(k.sum.size:Int)=q)(g:As o s)(c:ed j=200\/a=1000000000):
 D4 178 #[Yy d,C0 s,Zg l] w λe n=>e=.panicked [{v:=bk 4 ⟨#[]⟩ ⟨#[]⟩,recovered:=ba}]/\Zz w n:=by
 obtain⟨HN,C,B,t⟩:=Yw (EU h.R f g),AB h.R.di;subst t;have n:=Yw h;clear h f g;by_cases h1:ed j=200
 .have u:((ed j:Int)==200)=ay:=Yt;clear c h1;delta D4;go_in;go_wp2_with fail;refine HN.Ak ?_;rintro e z ⟨rfl,g⟩;have f:=n.A g;obtain⟨x,y⟩:=Aa.c2 f.R.box 3 7;clear f n HN;go_wp2;exact⟨rfl,rfl,g⟩
 have u:((ed j:Int)==200)=ba:=Yt;have A:(a==1000000000)=ay:=Yt;clear c h1;delta D4;go_in;go_wp2_with fail;refine HN.Ak ?_;rintro e z ⟨rfl,g⟩;have f:=n.A g;obtain⟨x,y⟩:=Aa.c2 f.R.box 3 7;clear f n HN;go_wp2;exact⟨rfl,rfl,g⟩
theorem Ut{x b:Int}{s:C5}{u:C7}(a:Int)(h:DU w i d m O P L x c f b s u t)(o:0<=c)(p:c<=1000000000)(q:0<=a)(r:a<=1000000000)(A:1000000000<c+a):
 D4 182 #[Yy d,Zg a] w λe g=>e=.panicked [{v:=bk 4 ⟨#[]⟩ ⟨#[]⟩,recovered:=ba}]/\Zz w g:=by
 have⟨W,g⟩:=Du w #[Yy d] 90;have k:=(Av g).1;obtain⟨n,l,j,y⟩:=(Av g).2.2,h.A k,Yw g,Ib o p q r;obtain⟨⟨B,_⟩,z,_⟩:=n 0 _ rfl,l.R.box 2 _ rfl;clear h l g n;delta D4;go_in;go_upto_region 1 with fail;rw[<-j.o];clear j;go_wp2;exact⟨rfl,rfl,k⟩
theorem My(a:Zk)(b:Nat)(n:Int)(w:Zh):
 D4 218 #[Cx a 0 b,Zg n,.func (.func 219) #[] #[]] w λe c=>e=C1 (.tuple #[Ze,ec ba])/\Zz w c:=by
 delta D4;go_in;go_wp2;go_loopw [9,10] (λi j wr=>i=Zg 0/\j=Zg 0/\wr=w) (λ_ _ _=>0)
 case atStart=>exact⟨rfl,rfl,rfl⟩
 obtain⟨rfl,rfl,rfl⟩:=hrel;go_wp2
 go_ret2
 exact⟨by first|rfl|simp[Act.put],Ae⟩
theorem OK(a:Zk)(b:Nat)(n:Zi)(w:Zh):
 D4 238 #[Cx a 0 b,C0 n,.func (.func 239) #[] #[]] w λe c=>e=C1 (.tuple #[Ze,ec ba])/\Zz w c:=by
 delta D4;go_in;go_wp2;go_loopw [9,10] (λi j wr=>i=Zg 0/\j=Zg 0/\wr=w) (λ_ _ _=>0)
 case atStart=>exact⟨rfl,rfl,rfl⟩
 obtain⟨rfl,rfl,rfl⟩:=hrel;go_wp2
 go_ret2
 exact⟨by first|rfl|simp[Act.put],Ae⟩
theorem Aah{c:C6}(n:Int)(k:ej w d 112 3 L (ed c) (Af lC c))(p:ed c<=600)(f:c.Pairwise (λa b=>a.M<b.M)):
 D4 218 #[L,Zg n,.func (.func 219) #[] #[]] w λe l=>∃i:Nat,e=C1 (.tuple #[Zg i,ec (bq (∃x,c[i]?=ai x/\x.M=n))])/\Kq c n i/\Zz w l:=by
 rcases k.2 with⟨rfl,r⟩|⟨g,m,s,rfl,_⟩
 .have:c=[]:=A9 r;subst this;refine(My an 0 n w).ah ?_;rintro e l ⟨rfl,o⟩;exact⟨0,Yu,⟨Zx,λj x h=>Yv,λj x _ q=>by simp at q⟩,o⟩
 exact IE g m n k p f
theorem Aai{c:C7}(n:Zi)(k:ej w d 148 2 P (ed c) (Af pC c))(p:ed c<=600)(f:c.Pairwise (λa b=>less a.name b.name=ay)):
 D4 238 #[P,C0 n,.func (.func 239) #[] #[]] w λe l=>∃i:Nat,e=C1 (.tuple #[Zg i,ec (bq (∃x,c[i]?=ai x/\x.name=n))])/\Ep c n i/\Zz w l:=by
 rcases k.2 with⟨rfl,r⟩|⟨g,m,s,rfl,_⟩
 .have:c=[]:=A9 r;subst this;refine(OK an 0 n w).ah ?_;rintro e l ⟨rfl,o⟩;exact⟨0,Yu,⟨Zx,λj x h=>Yv,λj x _ q=>by simp at q⟩,o⟩
 exact JW g m n k p f
theorem Aaj{z k:Int}{y:C7}{j:C6}(n:Int)(h:DU w g d m O P L z q k f u y j)(B:ed j<=200)(c:j.Pairwise (λa b=>a.M<b.M))(o:¬∃x∈j,x.M=n):
 D4 181 #[Yy d,Zg n] w λe l=>e=.panicked [{v:=bk 5 ⟨#[]⟩ ⟨#[]⟩,recovered:=ba}]/\Zz w l:=by
 obtain⟨HS,C,A,p⟩:=Yw (Aah n h.R.di Yv c),AB h.R.di;subst p;obtain⟨l,r,_⟩:=Yw o,h.R.box 7 _ rfl;clear h c o;delta D4;go_in;go_wp2_with fail;refine HS.Ak ?_;rintro e D ⟨i,rfl,_,o⟩;have c:bq (∃x,j[i]?=ai x/\x.M=n)=ba:=by rw[decide_eq_false_iff_not];rintro⟨x,t,s⟩;exact l ⟨x,Zs t,s⟩
 rw[c];clear c HS l r;go_wp2;exact⟨rfl,rfl,o⟩
theorem Kv{v s k:Int}{t:C5}{g:C7}{u:C6}(n:Zi)(h:DU w j d m O P L v s k f t g u)(z:ed g<=200)(c:g.Pairwise (λa b=>less a.name b.name=ay)):
 D4 215 #[Yy d,C0 n] w λe l=>∃i:Nat,e=C1 (.tuple #[Zg i,ec (bq (∃x,g[i]?=ai x/\x.name=n))])/\Ep g n i/\Zz w l:=by
 obtain⟨HS,A,y,p⟩:=Yw (Aai n h.R.co Yv c),AB h.R.co;subst p;obtain⟨c6,_⟩:=h.R.box 6 _ rfl;clear h c;delta D4;go_in;go_wp2_with fail;refine HS.Ak ?_;rintro e B ⟨i,rfl,r,q⟩;have⟨l,c⟩:∃l,bq (∃x,g[i]?=ai x/\x.name=n)=l:=⟨_,rfl⟩;have o:=Yw c;rw[c];clear c;go_wp2
 go_ret2
 exact⟨i,by rw[o.o];rfl,r,q⟩
theorem Wl{s:Int}{q:C5}{k:C7}{r:C6}(n:Zi)(h:DU w j d m O P L s p f c q k r)(t:ed k<=200)(g:k.Pairwise (λa b=>less a.name b.name=ay))(o:¬∃x∈k,x.name=n):
 D4 180 #[Yy d,C0 n] w λe l=>e=.panicked [{v:=bk 5 ⟨#[]⟩ ⟨#[]⟩,recovered:=ba}]/\Zz w l:=by
 have HS:=Yw (Kv n h t g);have l:=Yw o;clear h g o;delta D4;go_in;go_wp2_with fail;refine HS.Ak ?_;rintro e z ⟨i,rfl,_,o⟩;have g:bq (∃x,k[i]?=ai x/\x.name=n)=ba:=by rw[decide_eq_false_iff_not];rintro⟨x,y,u⟩;exact l ⟨x,Zs y,u⟩
 rw[g];clear g HS l;go_wp2;exact⟨rfl,rfl,o⟩
theorem BN{n:Nat}{f:Zj}(h:ej w b e size v n f)(c:ef v=ai g):∃a,w.1[g]?=ai (bs a e):=by
 rcases h.2 with⟨rfl,_⟩|⟨j,i,a,rfl,_,d,_⟩
 .cases c
 cases c;exact⟨a,d⟩
theorem DU.fm{v i g:Int}{s:C5}{u:C7}(h:DU w k d m O P L v p i g s u t){R:Nat}{l:Array Value}(j:w.1[R]?=ai (bs l 81))(r:R≠d):R∉vB d m O P L/\NS w R:=by
 refine⟨λa=> ?_,λl b e=>by rw[j]at e;cases e⟩;unfold vB at a;simp only[Bh,A5,A6]at a;rcases a with a|a|a|a|a
 .exact r a
 .obtain⟨n,f,_,q,_⟩:=h.R.map;obtain⟨D,⟨x,clock,o,_⟩,_⟩:=q;rw[<-a,j]at o;cases o
 .obtain⟨c,b⟩:=BN h.R.ord a;rw[j]at b;cases b
 .obtain⟨c,b⟩:=BN h.R.co a;rw[j]at b;cases b
 obtain⟨c,b⟩:=BN h.R.di a;rw[j]at b;cases b
theorem Gz{f:Nat}{j:Int}{i:C5}(s x K:Zi)(o:Int)(H:Zk)(J I:Nat)(h:DU w f d m O P L j n c a i z t)(k:Int)(y r:Value->Value)(u:Int)(p:C7)(l:C6)(B:List Nat)(D:∀b∈B,b<w.1.size)(R:(k=2/\∀W,DU W f d m O P L j n c a i z t->D4 179 #[Yy d,C0 x,C0 s] W (λe g=>e=C1 (.tuple #[])/\∃V,DU g f d m O (y V) (r V) j u c a i p l/\Tn B W g))\/(k=3/\∀W,DU W f d m O P L j n c a i z t->D4 180 #[Yy d,C0 x] W (λe g=>e=C1 (.tuple #[])/\∃V,DU g f d m O (y V) (r V) j u c a i p l/\Tn B W g))\/(k=5/\∀W,DU W f d m O P L j n c a i z t->D4 181 #[Yy d,Zg o] W (λe g=>e=C1 (.tuple #[])/\∃V,DU g f d m O (y V) (r V) j u c a i p l/\Tn B W g))\/(k=6/\∀W,DU W f d m O P L j n c a i z t->D4 182 #[Yy d,Zg o] W (λe g=>e=C1 (.tuple #[])/\∃V,DU g f d m O (y V) (r V) j u c a i p l/\Tn B W g))):
 D4 136 #[Yy d,ca (Ye k s x o K H J I)] w λe g=>e=C1 (ca (ee z12))/\∃V,DU g f d m O (y V) (r V) j u c a i p l/\Tn B w g:=by
 have⟨W,g⟩:=Ag (((w.alloc (bs (Ye k s x o K H J I) 117)).alloc (bs Yd 81)).alloc (bs Yd 81));obtain⟨F,E,S⟩:=(Bq g).1,(Bq g).2.1,(Bq g).2.2.1;have zR:Aa W (w.1.size+1) z12:=(Bq g).2.2.2.1;have T:Aa W (w.1.size+2) z12:=(Bq g).2.2.2.2;have A:W.1[w.1.size+1]?=ai (bs Yd 81):=by rw[g,Below.heap_alloc _ _ _ Yu];have:=heap_alloc_new (w.alloc (bs (Ye k s x o K H J I) 117)) (bs Yd 81);rw[Aq]at this;exact this
 obtain⟨M,zA,Q⟩:=h.A F,h.R.box.lt,Yw g;have q:Hid (Aa W (w.1.size+1) z12/\Aa W (w.1.size+2) z12/\W.1[w.1.size+1]?=ai (bs Yd 81)/\Zz w W/\W.1.size=w.1.size+3/\f<=w.1.size):=⟨zR,T,A,F,E,h.lo⟩;have C:=Yw D;obtain⟨⟨U,X,Y,Z⟩,N,G⟩:=Aa.c4 S 0 1 2 3,Yw M,Yw R;clear g h M zR T A F E S D R;rcases G.o with⟨rfl,g⟩|⟨rfl,g⟩|⟨rfl,g⟩|⟨rfl,g⟩
 all_goals
  have M:=Yw g;clear g G;delta D4;go_in;go_upto_region 2 with fail;rw[<-Q.o];clear Q;go_wp2_with fail;refine Calls.mono (M W N) ?_;rintro e Q ⟨rfl,V,D,g⟩;have zz:=q.2.2.2.2.1;have G:=Aa.same q.1 (g.block _ Yv (λh=>C8 (C _ h)));have F:=Aa.same q.2.1 (g.block _ Yv (λh=>C8 (C _ h)));have E:=(g.block _ Yv (λh=>C8 (C _ h))).ag q.2.2.1;obtain⟨A,⟨⟨T,q0⟩,⟨y1,q1⟩,⟨y2,q2⟩,⟨y3,q3⟩,⟨y4,q4⟩,⟨y5,q5⟩,⟨y6,q6⟩,⟨y7,q7⟩,⟨y8,q8⟩,⟨y9,q9⟩,⟨R,zB⟩,S,zC⟩,⟨v0,_⟩,⟨v1,_⟩,⟨v2,_⟩,⟨v3,_⟩,⟨v4,_⟩,⟨v5,_⟩,⟨v6,_⟩,⟨v7,_⟩,⟨v8,_⟩,⟨v9,_⟩,⟨zE,_⟩,zF,_⟩:=Yw (Zn D (Zn g (D.fm E Yv))),Br G,Br F;clear D g G F E U X Y Z M zz N;go_wp2;refine Co (ca (ee z12)) (by simp[results,results136,go_sem,T,y1,y2,y3,y4,y5,y6,y7,y8,y9,R,S,z12]) ⟨rfl,V,A.1.O (Bw Q (w.1.size+1) _ _ _ _ _ _ _ _ _ _ _ _) (by intro b g;simp at g;subst g;exact⟨C8 q.2.2.2.2.2,A.2.2⟩),Tn.fresh ((Tn.of q.2.2.2.1).ag A.2.1) (Bw Q (w.1.size+1) _ _ _ _ _ _ _ _ _ _ _ _) Yv⟩
theorem Nk{k:Int}{n:C7}{j:C6}(s r y:Zi)(i:Int)(t:Zk)(v u:Nat)(h:DU w g d m O P L p k f c o n j)(B:ed j<=200)(l:j.Pairwise (λa b=>a.M<b.M))(z:∃x∈j,x.M=i):
 D4 136 #[Yy d,ca (Ye 5 s r i y t v u)] w λe q=>e=C1 (ca (ee z12))/\∃A,DU q g d m O P A p k f c o n (Bz j i)/\Tn (d::(ef L).toList) w q:=
 Gz s r y i t v u h 5 (λ_=>P) (λV=>V) (k) (n) (Bz j i) (d::(ef L).toList) (λb q=>h.R.dj b (by unfold vB;simp at q |-;rcases q with rfl|q<;>simp[*])) (ct (ct (cr ⟨rfl,λW A=>Wi i A B l z⟩)))
theorem Nl{l:C5}{k:C7}{j:C6}(s p u:Zi)(g:Int)(q:Zk)(t r:Nat)(h:DU w i d m O P L n f c a l k j)(z:ed j<=200)(v:0<=f)(x:0<=g)(A:f+g<=1000000000):
 D4 136 #[Yy d,ca (Ye 6 s p g u q t r)] w λe o=>e=C1 (ca (ee z12))/\∃y,DU o i d m O P y n (f+g) c a l k (AQ j (f+g))/\Tn (d::(ef L).toList) w o:=
 Gz s p u g q t r h 6 (λ_=>P) (λV=>V) (f+g) (k) (AQ j (f+g)) (d::(ef L).toList) (λb o=>h.R.dj b (by unfold vB;simp at o |-;rcases o with rfl|o<;>simp[*])) (ct (ct (ct ⟨rfl,λW y=>Wk g y z v x A⟩)))
theorem MA{j:Int}{i:C7}{n:C6}(s k y:Zi)(q:Int)(t:Zk)(v u:Nat)(h:DU w g d m O P L p j f c o i n)(B:ed i<=200)(l:i.Pairwise (λa b=>less a.name b.name=ay))(z:∃x∈i,x.name=k):
 D4 136 #[Yy d,ca (Ye 3 s k q y t v u)] w λe r=>e=C1 (ca (ee z12))/\∃A,DU r g d m O A L p j f c o (Bf i k) n/\Tn (d::(ef P).toList) w r:=
 Gz s k y q t v u h 3 (λV=>V) (λ_=>L) (j) (Bf i k) (n) (d::(ef P).toList) (λb r=>h.R.dj b (by unfold vB;simp at r |-;rcases r with rfl|r<;>simp[*])) (ct (cr ⟨rfl,λW A=>Ur k A B l z⟩))
theorem Nn(d:Nat)(s j o:Zi)(g:Int)(l:Zk)(n m:Nat)(c:Int)(a b:Zi)(w:Zh)(h:∀X,Zz w X->D4 180 #[Yy d,C0 j] X λe f=>e=.panicked [{v:=bk c a b,recovered:=ba}]/\Zz X f):
 D4 136 #[Yy d,ca (Ye 3 s j g o l n m)] w λe f=>e=.panicked [{v:=bk c a b,recovered:=ba}]/\Zz w f:=by
 have⟨W,f⟩:=Ag (((w.alloc (bs (Ye 3 s j g o l n m) 117)).alloc (bs Yd 81)).alloc (bs Yd 81));have i:=(Bq f).1;obtain⟨p,q,k⟩:=(Bq f).2.2.1,Yw (h W i),Yw f;obtain⟨r,t,u,x⟩:=Aa.c4 p 0 1 2 3;clear f p h;delta D4;go_in;go_upto_region 2 with fail;rw[<-k.o];clear k;go_wp2_with fail;refine q.Ak ?_;rintro e k ⟨rfl,f⟩;exact⟨rfl,rfl,i.ag (f.ah i.size)⟩
theorem Jn(d:Nat)(s k o:Zi)(f:Int)(l:Zk)(n m:Nat)(c:Int)(a b:Zi)(w:Zh)(h:∀X,Zz w X->D4 178 #[Yy d,C0 s,Zg f] X λe g=>e=.panicked [{v:=bk c a b,recovered:=ba}]/\Zz X g):
 D4 136 #[Yy d,ca (Ye 4 s k f o l n m)] w λe g=>e=.panicked [{v:=bk c a b,recovered:=ba}]/\Zz w g:=by
 have⟨W,g⟩:=Ag (((w.alloc (bs (Ye 4 s k f o l n m) 117)).alloc (bs Yd 81)).alloc (bs Yd 81));have i:=(Bq g).1;obtain⟨p,q,j⟩:=(Bq g).2.2.1,Yw (h W i),Yw g;obtain⟨r,t,u,x⟩:=Aa.c4 p 0 1 2 3;clear g p h;delta D4;go_in;go_upto_region 2 with fail;rw[<-j.o];clear j;go_wp2_with fail;refine q.Ak ?_;rintro e j ⟨rfl,g⟩;exact⟨rfl,rfl,i.ag (g.ah i.size)⟩
theorem OL(d:Nat)(s k o:Zi)(f:Int)(l:Zk)(n m:Nat)(c:Int)(a b:Zi)(w:Zh)(h:∀X,Zz w X->D4 181 #[Yy d,Zg f] X λe g=>e=.panicked [{v:=bk c a b,recovered:=ba}]/\Zz X g):
 D4 136 #[Yy d,ca (Ye 5 s k f o l n m)] w λe g=>e=.panicked [{v:=bk c a b,recovered:=ba}]/\Zz w g:=by
 have⟨W,g⟩:=Ag (((w.alloc (bs (Ye 5 s k f o l n m) 117)).alloc (bs Yd 81)).alloc (bs Yd 81));have i:=(Bq g).1;obtain⟨p,q,j⟩:=(Bq g).2.2.1,Yw (h W i),Yw g;obtain⟨r,t,u,x⟩:=Aa.c4 p 0 1 2 3;clear g p h;delta D4;go_in;go_upto_region 2 with fail;rw[<-j.o];clear j;go_wp2_with fail;refine q.Ak ?_;rintro e j ⟨rfl,g⟩;exact⟨rfl,rfl,i.ag (g.ah i.size)⟩
theorem OM(d:Nat)(s k o:Zi)(f:Int)(l:Zk)(n m:Nat)(c:Int)(a b:Zi)(w:Zh)(h:∀X,Zz w X->D4 182 #[Yy d,Zg f] X λe g=>e=.panicked [{v:=bk c a b,recovered:=ba}]/\Zz X g):
 D4 136 #[Yy d,ca (Ye 6 s k f o l n m)] w λe g=>e=.panicked [{v:=bk c a b,recovered:=ba}]/\Zz w g:=by
 have⟨W,g⟩:=Ag (((w.alloc (bs (Ye 6 s k f o l n m) 117)).alloc (bs Yd 81)).alloc (bs Yd 81));have i:=(Bq g).1;obtain⟨p,q,j⟩:=(Bq g).2.2.1,Yw (h W i),Yw g;obtain⟨r,t,u,x⟩:=Aa.c4 p 0 1 2 3;clear g p h;delta D4;go_in;go_upto_region 2 with fail;rw[<-j.o];clear j;go_wp2_with fail;refine q.Ak ?_;rintro e j ⟨rfl,g⟩;exact⟨rfl,rfl,i.ag (g.ah i.size)⟩
theorem Kw(d:Nat)(s j o:Zi)(g:Int)(l:Zk)(n m:Nat)(c:Int)(a b:Zi)(w:Zh)(h:∀X,Zz w X->D4 179 #[Yy d,C0 j,C0 s] X λe f=>e=.panicked [{v:=bk c a b,recovered:=ba}]/\Zz X f):
 D4 136 #[Yy d,ca (Ye 2 s j g o l n m)] w λe f=>e=.panicked [{v:=bk c a b,recovered:=ba}]/\Zz w f:=by
 have⟨W,f⟩:=Ag (((w.alloc (bs (Ye 2 s j g o l n m) 117)).alloc (bs Yd 81)).alloc (bs Yd 81));have i:=(Bq f).1;obtain⟨p,q,k⟩:=(Bq f).2.2.1,Yw (h W i),Yw f;obtain⟨r,t,u,x⟩:=Aa.c4 p 0 1 2 3;clear f p h;delta D4;go_in;go_upto_region 2 with fail;rw[<-k.o];clear k;go_wp2_with fail;refine q.Ak ?_;rintro e k ⟨rfl,f⟩;exact⟨rfl,rfl,i.ag (f.ah i.size)⟩
theorem MB{A:C5}{H:C7}(r y:Zi)(f:Int)(t:Zk)(x u:Nat)(h:DU w i d m O P L C n a c A H B)(U:∀k∈A,(k.sum.size:Int)=C)(Y:As A s)(hl:ed B<200)(Q:0<=a)(R:a<1000000000)(S:0<=n)(T:n<=1000000000)(X:0<=f)(g:f<=1000000000):
 D4 136 #[Yy d,ca (Ye 4 s r f y t x u)] w λe j=>e=C1 (ca #[Ze,Ze,Ze,Ze,Ze,Zb,Zb,Zb,Zc,Zg (a+1),Zc,Zc])/\∃l,DU j i d m O P l C n (a+1) c A H (B++[⟨a+1,s,n+f⟩])/\Tn (d::(ef L).toList) w j:=by
 have⟨W,j⟩:=Ag (((w.alloc (bs (Ye 4 s r f y t x u) 117)).alloc (bs Yd 81)).alloc (bs Yd 81));obtain⟨G,F,M⟩:=(Bq j).1,(Bq j).2.1,(Bq j).2.2.1;have zR:Aa W (w.1.size+1) z12:=by have z:=Aa.new (w.alloc (bs (Ye 4 s r f y t x u) 117)) z12 81;rw[Aq]at z;rw[j];exact Aa.A (v:=Ze) z (Zy)
 have N:Aa W (w.1.size+2) z12:=by have z:=Aa.new ((w.alloc (bs (Ye 4 s r f y t x u) 117)).alloc (bs Yd 81)) z12 81;rw[Aq,Aq]at z;rw[j];exact z
 have D:W.1[w.1.size+1]?=ai (bs Yd 81):=by rw[j,Below.heap_alloc _ _ _ Yu];have:=heap_alloc_new (w.alloc (bs (Ye 4 s r f y t x u) 117)) (bs Yd 81);rw[Aq]at this;exact this
 have q:W.1[w.1.size+2]?=ai (bs Yd 81):=by have:=heap_alloc_new ((w.alloc (bs (Ye 4 s r f y t x u) 117)).alloc (bs Yd 81)) (bs Yd 81);rw[Aq,Aq]at this;rw[j];exact this
 have K:=h.A G;have zA:=h.R.box.lt;have E:∀b∈d::(ef L).toList,b<w.1.size:=λb l=>h.R.dj b (by unfold vB;simp at l |-;rcases l with rfl|l<;>simp[*]);have I:=Yw (PI f K U Y hl Q R S T X g);have J:=Yw j;have o:Hid (Aa W (w.1.size+1) z12/\Aa W (w.1.size+2) z12/\W.1[w.1.size+1]?=ai (bs Yd 81)/\W.1[w.1.size+2]?=ai (bs Yd 81)/\Zz w W/\W.1.size=w.1.size+3/\i<=w.1.size):=⟨zR,N,D,q,G,F,h.lo⟩;have p:=Yw E;obtain⟨Z,k,e2,e3⟩:=Aa.c4 M 0 1 2 3;clear j h K zR N D q G F M E;delta D4;go_in;go_upto_region 2 with fail;rw[<-J.o];clear J;go_wp2_with fail;refine I.Ak ?_;rintro e J ⟨rfl,V,q,g⟩;have zz:=o.2.2.2.2.2.1;have G:=Aa.same o.1 (g.block _ Yv (λh=>C8 (p _ h)));have F:=Aa.same o.2.1 (g.block _ Yv (λh=>C8 (p _ h)));have E:=(g.block _ Yv (λh=>C8 (p _ h))).ag o.2.2.1;have D:=(g.block _ Yv (λh=>C8 (p _ h))).ag o.2.2.2.1;obtain⟨j,⟨⟨N,q0⟩,⟨y1,q1⟩,⟨y2,q2⟩,⟨y3,q3⟩,⟨y4,q4⟩,⟨y5,q5⟩,⟨y6,q6⟩,⟨y7,q7⟩,⟨y8,q8⟩,⟨y9,q9⟩,⟨K,zE⟩,M,zF⟩,⟨v0,p0⟩,⟨v1,p1⟩,⟨v2,p2⟩,⟨v3,p3⟩,⟨v4,p4⟩,⟨v5,p5⟩,⟨v6,p6⟩,⟨v7,p7⟩,⟨v8,p8⟩,⟨v9,p9⟩,⟨zG,zB⟩,zH,zC⟩:=Yw (Zn q (Zn g (Zn (q.fm E Yv) (q.fm D Yv)))),Br G,Br F;clear q g G F E D Z k e2 e3 I zz;go_wp2;refine Co (ca #[Ze,Ze,Ze,Ze,Ze,Zb,Zb,Zb,Zc,Zg (a+1),Zc,Zc]) (by simp[results,results136,go_sem,N,y1,y2,y3,y4,y5,y6,y7,y8,y9,K,M]) ?_;have g:=(Tn.set (V:=[w.1.size+1,w.1.size+2]) J (w.1.size+2) 9 (Zg (a+1)) Yu).ag (Tn.ah (Bw (el J (Zd (w.1.size+2) 9) (Zg (a+1))) (w.1.size+1) Ze Ze Ze Ze Ze Zb Zb Zb Zc (Zg (a+1)) Zc Zc) Yu);refine⟨rfl,V,j.1.O g (by intro b l;simp at l;have:=o.2.2.2.2.2.2;rcases l with rfl|rfl;exact⟨Yv,j.2.2.1⟩;exact⟨Yv,j.2.2.2⟩),?_⟩;have q:=(Tn.of (V:=d::(ef L).toList) o.2.2.2.2.1).ag j.2.1;exact⟨g.os.ag q.os,g.tape.ag q.tape,g.output.ag q.output,Zm q.size g.size,λb l D=>(g.block b (Zr l q.size) Yt).ag (q.block b l D)⟩
def Bj(ps:List Pd)(n s:Zi):List Pd:=ps.filter (fun x=>less x.name n)++[⟨n,s⟩]++ps.filter (fun x=> !(less x.name n)&& !bq (x.name=n))
theorem Ep.split{b:C7}{n:Zi}(h:Ep b n i):b.filter (λx=>less x.name n)=b.take i:=by
 have e:=(take_append_drop i b).symm
 conv=>lhs;rw[e]
 rw[filter_append,filter_eq_self.2 (λx c=> ?_),filter_eq_nil_iff.2 (λx c=> ?_),append_nil]
 .obtain⟨j,a⟩:=A3 c;rw[getElem?_drop]at a;rw[h.hi (i+j) x Yv a];simp
 obtain⟨j,a⟩:=A3 c;have c:=(Zw a).1;rw[Cl]at c;rw[getElem?_take_of_lt Yv]at a;exact h.lo j x Yv a
theorem Ep.iw{b:C7}{n:Zi}(h:Ep b n i):b.filter (λx=> !(less x.name n)&& !bq (x.name=n))=(b.drop i).filter (λx=> !bq (x.name=n)):=by
 have e:=(take_append_drop i b).symm
 conv=>lhs;rw[e]
 rw[filter_append,filter_eq_nil_iff.2 (λx c=> ?_),nil_append]
 .refine filter_congr (λx c=> ?_);have⟨j,a⟩:=A3 c;rw[getElem?_drop]at a;rw[h.hi (i+j) x Yv a];simp
 obtain⟨j,a⟩:=A3 c;have c:=(Zw a).1;rw[Cl]at c;rw[getElem?_take_of_lt Yv]at a;rw[h.lo j x Yv a];simp
theorem QZ{a:C7}{n:Zi}(h:Ep a n i)(b:¬∃x∈a,x.name=n):Bj a n s=a.take i++[⟨n,s⟩]++a.drop i:=by unfold Bj;rw[h.split,h.iw,filter_eq_self.2 (λx d=> ?_)];have c:x.name≠n:=λe=>b ⟨x,mem_of_mem_drop d,e⟩;simpa using c
theorem Wm{d:C7}{n:Zi}(h:Ep d n i)(q:d[i]?=ai x)(k:x.name=n)(c:d.Pairwise (λa b=>less a.name b.name=ay)):Bj d n s=d.set i ⟨n,s⟩:=by
 have⟨f,e⟩:=Zw q;unfold Bj;rw[h.split,h.iw,drop_eq_getElem_cons f,filter_cons,e,k];simp only[decide_true,Bool.not_true,Bool.false_eq_true,if_false];rw[filter_eq_self.2 (λy l=> ?_),set_eq_take_append_cons_drop,if_pos f,append_assoc]
 .rfl
 obtain⟨j,g⟩:=A3 l;rw[getElem?_drop]at g;have⟨l,o⟩:=Zw g;have:=pairwise_iff_getElem.1 c i (i+1+j) f l Yv;rw[e,o,k]at this;have m:y.name≠n:=λp=>by rw[p,Cz]at this;cases this
 simpa using m
theorem SI{a c n:Nat}{b:C7}(h:ej w a 148 2 (Yz g n c) n (Af pC b))(j:b[i]?=ai x)(s:Zi):ej (el w (Zd g (i *2+1)) (C0 s)) a 148 2 (Yz g n c) n (Af pC (b.set i ⟨x.name,s⟩)):=by
 have m:=(Zw j).1;have f:=(h.stored (i *2+1) (C0 s)).1;have l:(Af pC b)[i *2]?=ai (C0 x.name):=by have:=Cy ES j (show 0<2 by decide);simpa [pC]using this
 have d:=PO m (⟨x.name,s⟩:Pd);have k:(Af pC b).set (i *2) (C0 x.name)=Af pC b:=by have⟨o,e⟩:=Zw l;rw[<-e];exact set_getElem_self o
 rw[k]at d;rw[d]at f;exact f
theorem Aak{u:Int}{t:C5}{j:C7}{A:C6}(n:Zi)(h:DU w l d m O P L u q f c t j A)(T:∀k∈t,(k.sum.size:Int)=u)(F:As t s)(Z:ed j<=200)(z:j.Pairwise (λa b=>less a.name b.name=ay))(U:∃x∈j,x.name=n):
 D4 179 #[Yy d,C0 n,C0 s] w λe o=>e=C1 (.tuple #[])/\∃K,DU o l d m O K L u q f c t (Bj j n s) A/\Tn (d::(ef P).toList) w o:=by
 have E:0<ed j:=gG;have⟨g,p,Q⟩:=Kt h.R.co E;subst Q;obtain⟨HN,V,B,N⟩:=Yw (EU h.R T F),Yw h,Yw z,Yw U;delta D4;go_in;go_wp2_with fail;refine HN.Ak ?_;rintro e a ⟨rfl,C⟩;have G:=V.A C;have HS:=Yw (Ku g p n G Z B);go_wp2_with fail;refine HS.Ak ?_;rintro e r ⟨i,rfl,I,H⟩;have⟨x,y,J⟩:=I.at N B;have D:bq (∃x,j[i]?=ai x/\x.name=n)=ay:=gA;have zB:=(Zw y).1;have W:Hid (Bj j n s=j.set i ⟨n,s⟩):=Wm I y J B;have o:=G.A H;obtain⟨c6,_⟩:=o.R.box 6 _ rfl;have k:eh r (Zd g (i *2+1))=ai (C0 x.sum):=by have:=(o.R.co.cellAt (i *2+1) Yv).ag (Cy ES y (show 1<2 by decide));simpa [pC]using this
 have zA:ei r ⟨g,i *2+1,an⟩=ba:=o.R.co.frozenAt _;have S:g≠d:=((DI o.R.ap).2.2.1 g rfl).1;have v:=SI o.R.co y s;rw[J]at v;have Y:∃K,DU (el r (Zd g (i *2+1)) (C0 s)) l d m O K L u q f c t (Bj j n s) A/\Tn (d::(ef (C2 g j p)).toList) w (el r (Zd g (i *2+1)) (C0 s)):=by
  have M:Tn (d::(ef (C2 g j p)).toList) r (el r (Zd g (i *2+1)) (C0 s)):=(Bi r g _ _).ah (by intro b K;simp[ownBlock]at K |-;exact ct K);have R:Aa (el r (Zd g (i *2+1)) (C0 s)) d [Zg u,.map (ai m),Zg q,Zg f,Zg c,O,C2 g j p,L]:=Aa.same o.R.box (Below.heap_setCell _ _ _ _ (λe=>S e.symm));refine⟨C2 g j p,o.jd M R ?_ (cr rfl),(Tn.of (C.ag (H.ah C.size))).ag M⟩;rw[W.o,length_set];exact v
 have X:=Yw Y;rw[D];go_wp2;refine bodyPost_ret (results_none rfl _ _ _) rfl ?_;exact⟨rfl,X⟩
theorem Ra{c:Nat}{l j b:Int}{g:C5}{p:C7}{o:C6}(n s:Zi)(h:DU w c d m O P L l j b a g p o)(i:∀k∈g,(k.sum.size:Int)=l)(f:¬As g s):
 D4 179 #[Yy d,C0 n,C0 s] w λe q=>e=.panicked [{v:=bk 2 ⟨#[]⟩ ⟨#[]⟩,recovered:=ba}]/\Zz w q:=by
 have HN:=Yw (KW s h.R i f);clear h i f;delta D4;go_in;go_wp2_with fail;refine HN.Ak ?_;rintro e i ⟨rfl,f⟩;go_wp2;exact⟨rfl,rfl,f⟩
theorem Wn{g:C7}(n:Zi)(h:DU w j d m O P L r q f c o g B)(G:∀k∈o,(k.sum.size:Int)=r)(u:As o s)(K:ed g=100)(l:g.Pairwise (λa b=>less a.name b.name=ay))(H:¬∃x∈g,x.name=n):
 D4 179 #[Yy d,C0 n,C0 s] w λe p=>e=.panicked [{v:=bk 4 ⟨#[]⟩ ⟨#[]⟩,recovered:=ba}]/\Zz w p:=by
 have⟨C,A,F⟩:=AB h.R.co;subst F;obtain⟨HN,J,D,Q,N⟩:=Yw (EU h.R G u),Yw h,Yw l,Yw H,Yw K;delta D4;go_in;go_wp2_with fail;refine HN.Ak ?_;rintro e M ⟨rfl,p⟩;have y:=J.A p;have HS:=Yw (Kv n y Yv D);go_wp2_with fail;refine HS.Ak ?_;rintro e R ⟨i,rfl,_,z⟩;have t:bq (∃x,g[i]?=ai x/\x.name=n)=ba:=gG;have E:=y.A z;obtain⟨c6,_⟩:=E.R.box 6 _ rfl;have I:=Yw (p.ag (z.ah p.size));rw[t];go_wp2;exact⟨rfl,rfl,I⟩
theorem FJ{P:Program}(w:Zh)(l u x elem:TypeId)(i:TypeInfo)(k b o c f:Nat)(a:Addr)(d h:Nat)(e:Zj)(t:P.underlying l=ai (.slice elem))(q:P.info? elem=ai i)(r:i.size=k)(s:ed e=Nat.min d c *k)(g:∀j v,e[j]?=ai v->eh w (a.add j)=ai v)(y:∀j,j<ed e->(eh w (Zd b (o+j))).isSome=ay)(z:∀j,j<ed e->ei w ⟨b,o+j,an⟩=ba)(p:∀v∈e,v.oneCell'=ay):
 (Builtin.copy_ #[l,u] x #[Cx (ai ⟨b,o,an⟩) c f,Cx (ai a) d h]).run P w=.ok (goInt (Nat.min d c)) (w.setCells b o e):=by
 have m:=run_loadCells_list (P:=P) w a e g;have n:=run_storeCells_cells (P:=P) b o e 0 w Yv Yv p;rw[s]at m;subst r;simp[Builtin.copy_,run_underlying t,Builtin.lenOf,Builtin.firstCells,sizeOf,typeInfo,q,m,n]
theorem EJ(g:Nat)(t:TypeId)(a:Nat×Nat):∀(vs:Zj) (o:Nat) (w:Zh) (cur:Array Value),w.1[g]?=ai (bs cur t a)->o+ed vs<=cur.size->
 (w.setCells g o vs).1[g]?=ai (bs (ee (cur.toList.take o++vs++cur.toList.drop (o+ed vs))) t a)
 |[],o,w,cur,hg,_=>by simpa [setCells]using hg
 |v::r,o,w,cur,hg,hl=>by
  simp only[length_cons]at hl;rw[setCells];have b:(el w (Zd g o) v).1[g]?=ai (bs (cur.setIfInBounds o v) t a):=by rw[setCell_eq_setRow w g o cur t a v hg];exact setRow_heap w g cur _ t _ hg
  rw[EJ g t a r (o+1) _ _ b Yt];have e:=list_seg_step cur.toList o v r Yt;simp only[Array.toList_setIfInBounds,length_cons];rw[e]
theorem Uu{c n:Nat}{a f:Zj}(h:ej w c e k (Yz g n d) n a)(v:i<=n)(y:ed f=k)(j:n+1<=d):
 ej ((w.setCells g ((i+1) *k) (a.drop (i *k))).setCells g (i *k) f) c e k (Yz g (n+1) d) (n+1) (a.take (i *k)++f++a.drop (i *k)):=by
 obtain⟨F,x⟩:=h;rcases x with⟨e,_⟩|⟨C,o,b,e,t,u,D,r,s,E⟩
 .cases e
 cases e;have G:=Nat.mul_le_mul_right k v;have z:=Nat.mul_le_mul_right k j;rw[Nat.add_mul]at z |-;have hlen:ed (a.take (i *k)++f++a.drop (i *k))=n *k+k:=Yt;have m:(n+1) *k=n *k+k:=gG;have l:ed (a.drop (i *k))=n *k -i *k:=Yt;have p:=EJ g e (0,0) (a.drop (i *k)) (i *k+1 *k) w b u Yv;have q:=EJ g e (0,0) f (i *k) _ _ p Yt;refine⟨by rw[hlen,m],ct ⟨g,d,_,rfl,t,q,j,r,?_,?_⟩⟩
 .simp[l,s,y];omega
 have A:(b.toList.take (i *k+1 *k)++a.drop (i *k)++b.toList.drop (i *k+1 *k+ed (a.drop (i *k)))).take (i *k)=a.take (i *k):=gG;have B:(b.toList.take (i *k+1 *k)++a.drop (i *k)++b.toList.drop (i *k+1 *k+ed (a.drop (i *k)))).drop (i *k+ed f)=a.drop (i *k)++b.toList.drop (i *k+1 *k+ed (a.drop (i *k))):=gG;rw[toList_toArray,toList_toArray,A,B,<-append_assoc,take_append_of_le_length Yv,Zt Yv]
theorem Wo{c n G:Nat}{a b d:Zj}(x:ed a=n *k)(s:i<=n)(t:ed b=k)(q:c<=g)(r:w.1[g]?=ai (bs (ee (a.take (i *k)++d)) e (0,0)))(y:i *k+ed d=G *k)(f:n+1<=G)(h:G<=eo):
 ej ((w.setCells g (i *k) b).setCells g ((i+1) *k) (a.drop (i *k))) c e k (Yz g (n+1) G) (n+1) (a.take (i *k)++b++a.drop (i *k)):=by
 have z:=Nat.mul_le_mul_right k s;have u:=Nat.mul_le_mul_right k f;rw[Nat.add_mul]at u |-;have hlen:ed (a.take (i *k)++b++a.drop (i *k))=n *k+k:=Yt;have l:(n+1) *k=n *k+k:=gG;have m:ed (a.take (i *k))=i *k:=Yt;have j:ed (a.drop (i *k))=n *k -i *k:=Yt;have o:=EJ g e (0,0) b (i *k) w _ r Yt;have p:=EJ g e (0,0) (a.drop (i *k)) (i *k+1 *k) _ _ o Yt;refine⟨by rw[hlen,l],ct ⟨g,G,_,rfl,q,p,f,h,?_,?_⟩⟩
 .simp[j,t,m];omega
 have A:(a.take (i *k)++d).take (i *k)=a.take (i *k):=gA;have v:((a.take (i *k)++d).take (i *k)++b++(a.take (i *k)++d).drop (i *k+ed b)).take (i *k+1 *k)=a.take (i *k)++b:=gG;rw[v,take_append_of_le_length Yv,Zt Yv]
theorem NY(b:Nat)(a:Zj)(o:Nat)(w:Zh)(h:∀j,j<ed a->(eh w (Zd b (o+j))).isSome=ay)(k:Nat)(c:(eh w (Zd b k)).isSome=ay):(eh (w.setCells b o a) (Zd b k)).isSome=ay:=by
 by_cases hin:o<=k/\k<o+ed a
 .obtain⟨j,rfl⟩:∃j,k=o+j:=⟨k -o,Yv⟩;rw[cell?_setCells_in b a o w h j Yv];rfl
 rw[cell?_setCells_out b a o w _ (λ_ _=>by show k<o\/o+ed a<=k;omega)];exact c
theorem NZ(b:Nat):∀(vs:Zj) (o:Nat) (w:Zh),(w.setCells b o vs).drew=w.drew.setCells b o vs
 |[],_,_=>rfl
 |v::r,o,w=>by rw[setCells,setCells,NZ b r];rfl
theorem MC(w:Zh)(a:Addr):eh w.drew a=eh w a:=rfl
theorem PT(w:Zh)(a:Addr):ei w.drew a=ei w a:=rfl
theorem Rb(w:Zh)(r:Option Nat):ek w w.drew r:=⟨rfl,rfl,rfl,Zx,λ_ _ _=>rfl⟩
theorem GX{P:Program}(w:Zh){b:Array Oper}{rest:List Oper}{o:Oper}{a:Act}{Q:Exit->Act->Zh->Prop}(j:o.guard=an)(d s:Operand)(t c:TypeId)(k:o.op=.call {callee:=.builtin .copy,args:= #[d,s],argTypes:= #[t,c]})(v u:Dg)(i:a.eval d=v)(m:a.eval s=u){e:Dg}{f:Zh}(l:(Builtin.copy_ #[t,c] o.type #[v,u]).run P w=.ok e f)(h:wpList P b Q rest (a.put o.dst e) f):wpList P b Q (o::rest) a w:=by
 refine wpList_plain j λK g=> ?_;unfold Oper.wp;simp[execOp,k,resolve,invoke,builtin,i,m,l,Result.andThen];exact g _ _ h
theorem IF{P:Program}{f:Array Oper}{o:Oper}{a:Act}{K:Act->Zh->Prop}{Q:Exit->Act->Zh->Prop}{E:Prop}(i:o.guard=an)(d s:Operand)(t b:TypeId)(j:o.op=.call {callee:=.builtin .copy,args:= #[d,s],argTypes:= #[t,b]})(v u:Dg)(h:a.eval d=v)(l:a.eval s=u){c:Dg}{e:Zh}(k:(Builtin.copy_ #[t,b] o.type #[v,u]).run P w=.ok c e)(g:K (a.put o.dst c) e):
 if Region.wanted o (yielded f a.tmps)=ay then Oper.wp P o a w K Q else E:=by
 rw[if_pos (by simp[Region.wanted,i])];unfold Oper.wp;simp[execOp,j,resolve,invoke,builtin,h,l,k,Result.andThen];exact g
section
open Go.ChangeShapes Go.WideShapes Go.ChangeAt Go.RowKit Go.Lib
def No(fk fo te ts sz bt:Nat)(zv:Value):Prop:=
 (fk=216/\fo=241/\te=148/\ts=27/\sz=2/\bt=32/\zv=ca #[Zc,Zc])\/
 (fk=237/\fo=248/\te=160/\ts=122/\sz=8/\bt=8/\zv=ca DO)
theorem KX{a:Nat}{j:Dg}(n:No l m h k a b j):∃i:TypeInfo,prog.info? h=ai i/\i.zero=ai j/\i.size=a/\i.bytes=b/\prog.underlying k=ai (.slice h)/\(Value.cells j).size=a/\0<a/\b<=32/\a<=8:=by
 rcases n with⟨rfl,rfl,rfl,rfl,rfl,rfl,rfl⟩|⟨rfl,rfl,rfl,rfl,rfl,rfl,rfl⟩
 .obtain⟨g,f,c,d,e⟩:=info_parts Ji;exact⟨g,f,c,d,e,underlying27,Yr,Yq,Yq,Yq⟩
 obtain⟨g,f,c,d,e⟩:=info_parts KT;exact⟨g,f,c,d,e,underlying122,Yr,Yq,Yq,Yq⟩
theorem SJ{a:A->Zj}{e:Nat}{c:Nat}{x:A}(d:w.1[c]?=ai (bs (ee (a x)) e (0,0))):∀j u,(Af a [x])[j]?=ai u->eh w (Zd c j)=ai u:=by intro j u b;rw[Af,flatMap_cons,flatMap_nil,append_nil]at b;simp only[cell?,d];rw[<-b];simp
theorem Adf{q s r p:Nat}{t:Dg}(o:No q l k s r p t){c:Nat}{x y:Array Value}(f:c≠g)(b:w.1[c]?=ai (bs x k (0,0)))(n:w.1[g]?=ai (bs y k (0,0)))(m:y.size≠0):(callFunc l #[Yz c 1 1,Cx (ai ⟨g,d,an⟩) j i]).run prog w=.ok (.value (ec ba)) w:=by
 have⟨A,a,u,h,v,z,_⟩:=KX o;rcases o with⟨rfl,rfl,rfl,rfl,rfl,rfl,rfl⟩|⟨rfl,rfl,rfl,rfl,rfl,rfl,rfl⟩
 .rw[run_callFunc_extern func241 Yr Yr Yr (e:=Extern.SlicesOverlaps.overlaps #[27,27] #[4]) Yr,
   Lib.run_overlaps_apart w 27 4 148 underlying27 2 (λw=>by simp[sizeOf,typeInfo,a,h]) ⟨c,0,an⟩ ⟨g,d,an⟩ 1 1 j i f 148 148 x.size y.size (by simp only[shape?,b]) (by simp only[shape?,n]) m (by simp only[frozen?,b];rfl) (by simp[frozen?,b])]
  rfl
 rw[run_callFunc_extern func248 Yr Yr Yr (e:=Extern.SlicesOverlaps.overlaps #[122,122] #[4]) Yr,
  Lib.run_overlaps_apart w 122 4 160 underlying122 8 (λw=>by simp[sizeOf,typeInfo,a,h]) ⟨c,0,an⟩ ⟨g,d,an⟩ 1 1 j i f 160 160 x.size y.size (by simp only[shape?,b]) (by simp only[shape?,n]) m (by simp only[frozen?,b];rfl) (by simp[frozen?,b])]
 rfl
theorem Aal{d:A->Zj}{I L D:Nat}{S:Dg}(t:No I L l D k H S)(Q:∀x,ed (d x)=k)(N:∀h,∀u∈Af d h,u.oneCell'=ay)(b:List A)(x:A)(F:Nat){a:Nat}(v:ej w a l k P (ed b) (Af d b))(W:ed b<=600)(f:a<=w.1.size)(C:w.1[F]?=ai (bs (ee (d x)) l (0,0))):
 D4 I #[P,Zg (ed b),Yz F 1 1] w λe G=>∃c,e=C1 c/\ej G a l k c (ed b+1) (Af d (b++[x]))/\ek w G (ef P)/\(ef c=ef P\/ef c=ai w.1.size):=by
 have⟨R,c,n,o,p,i,q,z,m,y⟩:=KX t;obtain⟨E,G,B,h,s,_,J⟩:=run_append_own_at (P:=prog) w a D D l R _ k H i c n o p q z P (ed b) (Af d b) v ⟨F,0,an⟩ 1 1 (Af d [x]) (by rw[CF Q];simp) (λj u i=>by rw[A1,Ax];exact SJ C j u i) (N _) Yo (Zm (Nat.mul_le_mul (show ed b+1<=601 by omega) m) Yq) f;rw[<-Cn]at h;have r:=Yw (Zn h (Zn s J));clear h s J;rcases v.2 with⟨e,K⟩|⟨g,J,T,e,V,O,U,h,s,M⟩
 .subst e;rw[K]at r |-;clear v C i q z m y c n o p;rcases t with⟨rfl,rfl,rfl,rfl,rfl,rfl,rfl⟩|⟨rfl,rfl,rfl,rfl,rfl,rfl,rfl⟩
  all_goals
   delta D4;go_in;go_wp2_with (at_builtin;refine Lib.wpList_append_run _ rfl _ _ _ _ rfl _ _ rfl rfl _ _ B ?_);go_ret;exact⟨E,rfl,r⟩
 subst e;clear v C i q z m y c n o p O s M;unfold eo at h;by_cases hc:J=ed b
 .subst hc;rcases t with⟨rfl,rfl,rfl,rfl,rfl,rfl,rfl⟩|⟨rfl,rfl,rfl,rfl,rfl,rfl,rfl⟩
  all_goals
   delta D4;go_in;go_wp2_with (at_builtin;refine Lib.wpList_append_run _ rfl _ _ _ _ rfl _ _ rfl rfl _ _ B ?_);go_ret;exact⟨E,rfl,r⟩
 rcases t with⟨rfl,rfl,rfl,rfl,rfl,rfl,rfl⟩|⟨rfl,rfl,rfl,rfl,rfl,rfl,rfl⟩
 all_goals
  delta D4;go_in;go_wp2_with (at_builtin;refine Lib.wpList_append_run _ rfl _ _ _ _ rfl _ _ rfl rfl _ _ B ?_);go_ret;exact⟨E,rfl,r⟩
theorem Uv{d:A->Zj}{P Q r:Nat}(N:No P Q r m b bt zv)(I:∀x,ed (d x)=b)(R:∀k,∀u∈Af d k,u.oneCell'=ay)(g c i:Nat)(a:List A)(x:A)(D:Nat){o:Nat}(C:ej w o r b (Yz g (ed a) c) (ed a) (Af d a))(hl:ed a<=600)(hi:i<ed a)(l:ed a+1<=c)(L:D≠g)(F:w.1[D]?=ai (bs (ee (d x)) r (0,0))):
 D4 P #[Yz g (ed a) c,Zg i,Yz D 1 1] w λe f=>e=C1 (Yz g (ed a+1) c)/\ej f o r b (Yz g (ed a+1) c) (ed a+1) (Af d (a.take i++[x]++a.drop i))/\ek w f (ai g):=by
 obtain⟨S,p,Z,H,u,O,zA,h0,T,Y⟩:=KX N;have⟨n,E,zC,U,V,W⟩:∃n,w.1[g]?=ai (bs n r (0,0))/\ed a<=c/\c<=eo/\n.size=c *b/\n.toList.take (ed a *b)=Af d a:=by
  rcases C.2 with⟨e,_⟩|⟨g',zB,n,e,hb,E,h1,h2,h3,h4⟩
  .cases e
  cases e;exact⟨n,E,h1,h2,h3,h4⟩
 have m1:(i+1) *b=i *b+b:=Nat.succ_mul i b;have m2:(i+1) *b<=ed a *b:=Nat.mul_le_mul_right b hi;have m3:(ed a -i) *b=ed a *b -i *b:=Nat.sub_mul _ _ _;have m5:(ed a+1) *b=ed a *b+b:=Nat.succ_mul _ _;have m4:(ed a+1) *b<=c *b:=Nat.mul_le_mul_right b l;have M:=CF I a;have G:ed (Af d [x])=b:=by rw[CF I];simp
 have K:ed ((Af d a).drop (i *b))=(ed a -i) *b:=by rw[length_drop,M];omega
 have f:∀j,j<c *b->(eh w (Zd g j)).isSome=ay:=λj q=>by simp only[cell?,E];rw[B8 Yv];rfl
 have X:∀s k,(callFunc Q #[Yz D 1 1,Cx (ai ⟨g,(i+1) *b,an⟩) s k]).run prog w=.ok (.value (ec ba)) w:=λs k=>Adf N L F E Yv;have B:∀z y k,(Builtin.copy_ #[m,m] z #[Cx (ai ⟨g,(i+1) *b,an⟩) (ed a+1 -(i+1)) y,Cx (ai ⟨g,i *b,an⟩) (ed a+1 -i) k]).run prog w.drew=.ok (goInt (Nat.min (ed a+1 -i) (ed a+1 -(i+1)))) (w.drew.setCells g ((i+1) *b) ((Af d a).drop (i *b))):=λz y k=>
  FJ w.drew m m z r S b g ((i+1) *b) (ed a+1 -(i+1)) y ⟨g,i *b,an⟩ (ed a+1 -i) k ((Af d a).drop (i *b)) O p H (by rw[K];congr 1;show _=min _ _;omega)
   (fun j v q=>by
     rw[A1];rw[getElem?_drop]at q;have:=(Zw q).1;exact(C.cellAt _ Yv).ag q)
   (λj q=>f _ Yv) (λj _=>C.frozenAt _) (λv F=>R _ v (mem_of_mem_drop F))
 obtain⟨s,k⟩:=Ag (w.drew.setCells g ((i+1) *b) ((Af d a).drop (i *b)));have J:∀z y,(Builtin.copy_ #[m,m] z #[Cx (ai ⟨g,i *b,an⟩) (ed a+1 -i) y,Yz D 1 1]).run prog s=.ok (goInt (Nat.min 1 (ed a+1 -i))) (s.setCells g (i *b) (Af d [x])):=λz y=>
  FJ s m m z r S b g (i *b) (ed a+1 -i) y ⟨D,0,an⟩ 1 1 (Af d [x]) O p H (by rw[G,show Nat.min 1 (ed a+1 -i)=1 from Nat.min_eq_left Yv,Nat.one_mul])
   (fun j v q=>by
     rw[A1,Ax,k,cell?_setCells_out g _ _ _ _ (λh _=>absurd h L)];exact SJ F j v q)
   (λj q=>by rw[k];exact NY g ((Af d a).drop (i *b)) ((i+1) *b) w.drew (λt q=>f _ Yv) (i *b+j) (f _ Yv)) (λj _=>by rw[k,frozen?_setCells];exact C.frozenAt _) (R _)
 have q:ej (s.setCells g (i *b) (Af d [x])) o r b (Yz g (ed a+1) c) (ed a+1) (Af d (a.take i++[x]++a.drop i))/\ek w (s.setCells g (i *b) (Af d [x])) (ai g):=by
  refine⟨?_,?_⟩
  .rw[Cn,Cn,<-LL I a i Yv,<-LM I a i Yv,k];exact Uu (w:=w.drew) (Ai C (Ae.drew)) Yv G l
  rw[k];exact AF (FY (EF g _ _ _)) (EF g _ _ _)
 have y:=Yw q;rw[<-k]at B;unfold eo at U;have H:¬((i:Int)=(ed a:Int)):=Yv;have zE:(0:Int)<=(i:Int)+1:=Yv;have zF:(i:Int)+1<=(ed a:Int)+1:=Yv;have zG:((i:Int)+1).toNat=i+1:=Yv;have zH:((ed a:Int)+1).toNat=ed a+1:=Yv;have zI:(0:Int)<=(ed a:Int)+1:=Yv;have zJ:(ed a:Int)+1<=(c:Int):=Yv;have z:¬(c=i+1):=Yv;have h:¬(c=i):=Yv;have j:i<=ed a+1:=Yv;have t:(i:Int)<=(ed a:Int)+1:=Yv;have v:(i:Int)<=(ed a:Int):=Yv;have mixed:prog.follows .mixedOrders=ay:=Yr;have zK:IntKind.i64.wrap ((i:Int)+1)=(i:Int)+1:=F9;have zM:IntKind.i64.wrap ((ed a:Int)+1)=(ed a:Int)+1:=F9;clear m1 m2 m3 m4 m5 O zA h0 T Y C f q F E W V p Z u M G K k;rcases N with⟨rfl,rfl,rfl,rfl,rfl,rfl,rfl⟩|⟨rfl,rfl,rfl,rfl,rfl,rfl,rfl⟩
 all_goals
  delta D4;go_in;go_wp2_with (simp only[X])
  go_region_law_o (refine IF rfl _ _ _ _ rfl (Cx (ai ⟨g,_,an⟩) (ed a+1 -(i+1)) (c -(i+1))) (Cx (ai ⟨g,_,an⟩) (ed a+1 -i) (c -i)) I1 I1 (B 3 (c -(i+1)) (c -i)) ?_)
  go_wp2_with (at_builtin;refine GX _ rfl _ _ _ _ rfl _ _ rfl rfl (J _ _) ?_);go_ret;exact⟨rfl,y⟩
theorem Wp{d:A->Zj}{fk fo q c:Nat}(hk:No fk fo m q c bt zv)(Z:∀x,ed (d x)=c)(ha:∀l,∀u∈Af d l,u.oneCell'=ay)(g f i:Nat)(a:List A)(x:A)(O:Nat){n:Nat}(M:ej w n m c (Yz g (ed a) f) (ed a) (Af d a))(hl:ed a<=600)(hi:i<ed a)(K:f<ed a+1)(J:n<=w.1.size)(N:w.1[O]?=ai (bs (ee (d x)) m (0,0))):
 D4 fk #[Yz g (ed a) f,Zg i,Yz O 1 1] w λe k=>∃G,e=C1 (Yz w.1.size (ed a+1) G)/\ej k n m c (Yz w.1.size (ed a+1) G) (ed a+1) (Af d (a.take i++[x]++a.drop i))/\ek w k an:=by
 obtain⟨i0,o,zK,H,V,u,zN,h0,R,zI⟩:=KX hk;have S:g<w.1.size:=(Ab M rfl).2;have zJ:=(A0.1 N).1;have zY:ed a<=f:=by
  rcases M.2 with⟨e,_⟩|⟨g',zP,zS,e,E,hg,h1,h2,h3,h4⟩
  .cases e
  cases e;exact h1
 have m1:(i+1) *c=i *c+c:=Nat.succ_mul i c;have m2:(i+1) *c<=ed a *c:=Nat.mul_le_mul_right c hi;have m3:(ed a -i) *c=ed a *c -i *c:=Nat.sub_mul _ _ _;have m5:(ed a+1) *c=ed a *c+c:=Nat.succ_mul _ _;have F:=CF Z a;have U:ed (Af d [x])=c:=by rw[CF Z];simp
 have zF:ed ((Af d a).drop (i *c))=(ed a -i) *c:=by rw[length_drop,F];omega
 have T:ed ((Af d a).take (i *c))=i *c:=by rw[Cl,F];omega
 have hold:(Builtin.firstCells i0.size i (Yz g i f)).run prog w.drew=.ok (ee ((Af d a).take (i *c))) w.drew:=by
  rw[H];exact run_firstCells_some w.drew c i ⟨g,0,an⟩ i f ((Af d a).take (i *c)) T (λj v l=>by
   rw[A1,Ax];rw[getElem?_take]at l;split at l
   .exact(M.cellAt _ Yv).ag l
   cases l)
 have⟨G,X⟩:=Ag (grownCap w (ed a+1) f m);have⟨y,zO,zC⟩:∃y:Array Value,y=Value.cells zv/\y.size=c:=⟨_,rfl,zN⟩;have⟨I,W⟩:∃I:Zj,I=(Builtin.zeroCells y (ed a+1 -i)).toList++(Builtin.zeroCells y (G -(ed a+1))).toList:=⟨_,rfl⟩;have zE:ed a+1<=G:=by rw[X];exact grownCap_ge w _ _ _
 have D:G<=eo:=by rw[X];exact grownCap_le_maxLen w (ed a+1) f m Yo
 have m4:(ed a+1) *c<=G *c:=Nat.mul_le_mul_right c zE;have m6:(ed a+1 -i) *c=(ed a+1) *c -i *c:=Nat.sub_mul _ _ _;have m7:(G -(ed a+1)) *c=G *c -(ed a+1) *c:=Nat.sub_mul _ _ _;have zM:i *c+ed I=G *c:=by rw[W];simp[Builtin.zeroCells,zC];omega
 have zH:∀r,(Builtin.append_ #[q,3] r #[Yz g i f,Zg ((ed a:Int)+1 -(i:Int))]).run prog w=
  .ok (Yz w.1.size (ed a+1) G) (w.drew.alloc (bs (ee ((Af d a).take (i *c)++I)) m)):=λr=>by
  have m8:(ed a+1 -i) *c<=601 *8:=Nat.mul_le_mul Yv zI;have m9:(ed a+1) *bt<=601 *32:=Nat.mul_le_mul Yv R;have mA:(ed a+1 -i) *bt<=601 *32:=Nat.mul_le_mul Yv R;have zG:i+(ed a+1 -i)=ed a+1:=Yv;have h:=Lib.run_append_grow_zeros (P:=prog) w q 3 r m i0 _ .i64 .i64 u underlying3 o zK (ai ⟨g,0,an⟩) i f ((Af d a).take (i *c)) hold (ed a+1 -i) Yv (by rw[H];omega) Yv Yv (by rw[V];omega) (by rw[V,zG];exact growslice_fits K Yv);rw[zG,<-X,<-zO]at h;rw[show(ed a:Int)+1 -(i:Int)=((ed a+1 -i:Nat):Int) by omega,h,W];have e:ee ((Af d a).take (i *c))++Builtin.zeroCells y (ed a+1 -i)++Builtin.zeroCells y (G -(ed a+1))=ee ((Af d a).take (i *c)++((Builtin.zeroCells y (ed a+1 -i)).toList++(Builtin.zeroCells y (G -(ed a+1))).toList)):=by apply Array.toList_inj.1;simp
  rw[e]
 have⟨k,z⟩:=Du w.drew (ee ((Af d a).take (i *c)++I)) m;have p:k.1[w.1.size]?=ai (bs (ee ((Af d a).take (i *c)++I)) m (0,0)):=by rw[z];exact heap_alloc_new w.drew _
 have Y:∀j,j<G *c->(eh k (Zd (w.1.size) j)).isSome=ay:=λj l=>by simp only[cell?,p];rw[B8 (by simp[T];omega)];rfl
 have Q:∀j,ei k ⟨w.1.size,j,an⟩=ba:=λj=>by simp[frozen?,p]
 have hO:∀b,b<w.1.size->k.1[b]?=w.1[b]?:=λb E=>by rw[z];exact Mn w.drew _ E
 have zA:∀r C,(Builtin.copy_ #[q,q] r #[Cx (ai ⟨w.1.size,i *c,an⟩) (ed a+1 -i) C,Yz O 1 1]).run prog k=.ok (goInt (Nat.min 1 (ed a+1 -i))) (k.setCells w.1.size (i *c) (Af d [x])):=λr C=>
  FJ k q q r m i0 c w.1.size (i *c) (ed a+1 -i) C ⟨O,0,an⟩ 1 1 (Af d [x]) u o H (by rw[U,show Nat.min 1 (ed a+1 -i)=1 from Nat.min_eq_left Yv,Nat.one_mul])
   (fun j v l=>by
     rw[A1,Ax,cell?_of_block (hO O zJ)];exact SJ N j v l)
   (λj l=>Y _ Yv) (λj _=>Q _) (ha _)
 obtain⟨B,s⟩:=Ag ((k.setCells w.1.size (i *c) (Af d [x])).drew);have zB:∀r C L,(Builtin.copy_ #[q,q] r #[Cx (ai ⟨w.1.size,(i+1) *c,an⟩) (ed a+1 -(i+1)) C,Cx (ai ⟨g,i *c,an⟩) (ed a -i) L]).run prog B=.ok (goInt (Nat.min (ed a -i) (ed a+1 -(i+1)))) (B.setCells w.1.size ((i+1) *c) ((Af d a).drop (i *c))):=λr C L=>
  FJ B q q r m i0 c w.1.size ((i+1) *c) (ed a+1 -(i+1)) C ⟨g,i *c,an⟩ (ed a -i) L ((Af d a).drop (i *c)) u o H (by rw[zF];congr 1;show _=min _ _;omega)
   (fun j v l=>by
     rw[getElem?_drop]at l;have:=(Zw l).1;rw[A1,s,MC,cell?_setCells_out _ _ _ _ _ (λh _=>absurd h (Nat.ne_of_lt S)),cell?_of_block (hO g S)];exact(M.cellAt _ Yv).ag l)
   (λj l=>by rw[s,MC];exact NY w.1.size (Af d [x]) (i *c) k (λt l=>Y _ Yv) ((i+1) *c+j) (Y _ Yv)) (λj _=>by rw[s,PT,frozen?_setCells];exact Q _) (λv N=>ha _ v (mem_of_mem_drop N))
 have r:ej (B.setCells w.1.size ((i+1) *c) ((Af d a).drop (i *c))) n m c (Yz w.1.size (ed a+1) G) (ed a+1) (Af d (a.take i++[x]++a.drop i))/\ek w (B.setCells w.1.size ((i+1) *c) ((Af d a).drop (i *c))) an:=by
  refine⟨?_,?_⟩
  .rw[Cn,Cn,<-LL Z a i Yv,<-LM Z a i Yv,s,<-NZ];exact Ai (Wo (w:=k) F Yv U J p zM zE D) (Ae.drew)
  have s1:k.1.size=w.1.size+1:=by rw[z];simp
  have C:ek w k an:=by rw[z];exact⟨rfl,rfl,rfl,Yu,λb E _=>Mn w.drew _ E⟩
  have L:ek k (B.setCells w.1.size ((i+1) *c) ((Af d a).drop (i *c))) (ai w.1.size):=by rw[s];exact AF (AF (EF w.1.size (Af d [x]) (i *c) k) (Rb _ _)) (EF w.1.size ((Af d a).drop (i *c)) ((i+1) *c) _)
  exact⟨L.os.ag C.os,L.tape.ag C.tape,L.output.ag C.output,Zm C.size L.size,λb E _=>(L.block b Yv Yt).ag (C.block b E Yu)⟩
 have j:=Yw r;have l:=zB;rw[s]at l;have b:G<=9223372036854775807:=by unfold eo at D;omega
 have yC:¬((i:Int)=(ed a:Int)):=Yv;have yD:(f:Int)<(ed a:Int)+1:=Yv;have zZ:(0:Int)<=(i:Int)+1:=Yv;have yA:(i:Int)+1<=(ed a:Int)+1:=Yv;have yB:((i:Int)+1).toNat=i+1:=Yv;have t:¬(f=i):=Yv;have v:¬(G=i):=Yv;have zT:¬(G=i+1):=Yv;have zU:i<=ed a+1:=Yv;have zW:(i:Int)<=(ed a:Int)+1:=Yv;have zX:(i:Int)<=(ed a:Int):=Yv;have mixed:prog.follows .mixedOrders=ay:=Yr;have zV:i<=f:=Yv;have yE:IntKind.i64.wrap ((i:Int)+1)=(i:Int)+1:=F9;have yF:IntKind.i64.wrap ((ed a:Int)+1)=(ed a:Int)+1:=F9;have yG:IntKind.i64.wrap ((ed a:Int)+1 -(i:Int))=(ed a:Int)+1 -(i:Int):=F9;rw[<-z]at zH;clear m1 m2 m3 m4 m5 m6 m7 u zN h0 R zI M r N o zK V F U zF T hold X W zM p Y Q hO z S zJ;rcases hk with⟨rfl,rfl,rfl,rfl,rfl,rfl,rfl⟩|⟨rfl,rfl,rfl,rfl,rfl,rfl,rfl⟩
 all_goals
  delta D4;go_in
  go_wp2_with (first
   |(at_builtin;refine Lib.wpList_append_run _ rfl _ _ _ _ rfl _ _ rfl rfl _ _ (zH _) ?_)
   |(at_builtin;refine GX _ rfl _ _ _ _ rfl _ _ rfl rfl (zA _ _) ?_))
  go_region_law_o (refine IF rfl _ _ _ _ rfl (Cx (ai ⟨w.1.size,_,an⟩) (ed a+1 -(i+1)) (G -(i+1))) (Cx (ai ⟨g,_,an⟩) (ed a -i) (f -i)) I1 I1 (l 3 (G -(i+1)) (f -i)) ?_)
  go_wp2;go_ret;rw[<-s];exact⟨G,rfl,j⟩
theorem RL{k:A->Zj}{B F p o E:Nat}{I:Dg}(t:No B F p H o E I)(m:∀x,ed (k x)=o)(r:∀l,∀u∈Af k l,u.oneCell'=ay)(i:Nat)(c:List A)(x:A)(j:Nat){a:Nat}(n:ej w a p o P (ed c) (Af k c))(v:ed c<=600)(Q:i<=ed c)(d:a<=w.1.size)(D:ef P≠ai j)(y:w.1[j]?=ai (bs (ee (k x)) p (0,0))):
 D4 B #[P,Zg i,Yz j 1 1] w λe q=>∃f,e=C1 f/\ej q a p o f (ed c+1) (Af k (c.take i++[x]++c.drop i))/\ek w q (ef P)/\(ef f=ef P\/ef f=ai w.1.size):=by
 rcases B0 i (ed c) with h|h
 .rcases n.2 with⟨e,m⟩|⟨g,l,J,e,C,O,K,L,M,N⟩
  .omega
  subst e;rcases B0 l (ed c+1)with s|s
  .refine Calls.mono (Wp t m r g l i c x j n v h s d y) ?_;rintro e q ⟨G,rfl,z,f⟩;exact⟨_,rfl,z,⟨f.os,f.tape,f.output,f.size,λb C _=>f.block b C Yu⟩,ct rfl⟩
  refine Calls.mono (Uv t m r g l i c x j n v h s (λe=>D (by rw[e];rfl)) y) ?_;rintro e q ⟨rfl,z,f⟩;exact⟨_,rfl,z,f,cr rfl⟩
 obtain rfl:i=ed c:=Yv;rw[take_length,drop_length,append_nil];exact Aal t m r c x j n v d y
end
theorem Aam{g:Int}{f:C7}{F:C6}(n:Zi)(h:DU w j d m O P L C r g c u f F)(zG:∀k∈u,(k.sum.size:Int)=C)(M:As u s)(hl:ed f<100)(E:f.Pairwise (λa b=>less a.name b.name=ay))(zH:¬∃x∈f,x.name=n):
 D4 179 #[Yy d,C0 n,C0 s] w λe l=>e=C1 (.tuple #[])/\∃Z,DU l j d m O Z L C r g c u (Bj f n s) F/\Tn (d::(ef P).toList) w l:=by
 have⟨y,p,zC⟩:=AB h.R.co;subst zC;obtain⟨HN,HD,zB,N⟩:=Yw (EU h.R zG M),Yw h,Yw E,Yw zH;delta D4;go_in;go_wp2_with fail;refine HN.Ak ?_;rintro e w1 ⟨rfl,H⟩;have Q:=HD.A H;have HS:=Yw (Kv n Q Yv zB);go_wp2_with fail;refine HS.Ak ?_;rintro e X ⟨i,rfl,V,R⟩;have J:bq (∃x,f[i]?=ai x/\x.name=n)=ba:=by rw[decide_eq_false_iff_not];rintro⟨x,hx,hn⟩;exact N ⟨x,Zs hx,hn⟩
 have Y:Hid (Bj f n s=f.take i++[⟨n,s⟩]++f.drop i):=QZ V N;have G:=Q.A R;obtain⟨HB,⟨c6,_⟩,A,W⟩:=Yw (H.ag (R.ah H.size)),G.R.box 6 _ rfl,Du X #[C0 n,C0 s] 148;have a:=(Av W).1;have v:=G.A a;obtain⟨q,zA,zF⟩:=Yw v,Yw a,V.le;have D:=RL (cr ⟨rfl,rfl,rfl,rfl,rfl,rfl,rfl⟩) ES Su i f ⟨n,s⟩ X.1.size v.R.co Yv zF v.lo (λe=>Nat.lt_irrefl _ (Ab G.R.co e).2) (by rw[W];exact heap_alloc_new X _);obtain⟨HI,HA,e6,_⟩:=Yw D,Yw W,v.R.box 6 _ rfl;rw[J];go_wp2_with fail;rw[<-HA.o];refine HI.Ak ?_;rintro e I ⟨Z,rfl,U,S,l⟩;have⟨z,B,zE⟩:=AB U;subst zE;have T:∀b,ef (Cw y f p)=ai b->b≠d:=λb t=>((DI q.R.ap).2.2.1 b t).1;have K:∀b,ef (Cx z (ed f+1) B)=ai b->b≠d:=λb t=>by
  rcases l with l|l
  .exact T b (l▸t)
  rw[l]at t;have:=q.R.box.lt;cases t;omega
 have o:=Aa.same q.R.box (S.block d q.R.box.lt (λe=>T d e.symm rfl));obtain⟨f6,k6⟩:=o 6 _ rfl;have hK:∃k,DU (el I (Zd d 6) (Cx z (ed f+1) B)) j d m O k L C r g c u (Bj f n s) F/\Tn (d::(ef (Cw y f p)).toList) w (el I (Zd d 6) (Cx z (ed f+1) B)):=by
  have k:Tn (d::(ef (Cw y f p)).toList) A (el I (Zd d 6) (Cx z (ed f+1) B)):=
   ((CX S).ah (λb t=>mem_cons_of_mem _ t)).ag ((Bi I d 6 _).ah Yu)
  refine⟨_,q.jd k (o.set 6 _) ?_ ?_,((Tn.of HB).ag (Tn.of zA)).ag k⟩
  .have hlen:ed (Bj f n s)=ed f+1:=(by rw[Y.o];simp;omega);rw[hlen,Y.o];exact BU U K 6 _
  rcases l with l|l
  .exact cr l
  exact ct ⟨_,l,Zx⟩
 have t:=Yw hK;go_wp2;go_end0;exact⟨rfl,t⟩
def BE(out:Zl)(s:Zi):Zl:=if out.any (fun x=>decide (x=s))=ay then out else out++[s]
theorem Rc(a:Zl)(s:Zi):ed (BE a s)<=ed a+1:=by unfold BE;split<;>simp
theorem Jc(a o:Zl):ed (a.foldl BE o)<=ed o+ed a:=by
 induction a generalizing o with
 |nil=>simp
 |cons x a ih=>have b:=ih (BE o x);have c:=Rc o x;simp only[foldl_cons,length_cons];omega
def DK(ps:List Pd)(ls:List Ld):Zl:=(ls.map (·.sum)).foldl BE ((ps.map (·.sum)).foldl BE [])
section
attribute [local go_sem↓] Go.wp_at_zero Go.wp_at_succ
def later(ks:List Kd)(k:Nat):List Int:=((ks.take k).map (·.born)).filter (fun b=>decide (600<b))
theorem Uw{a:C5}{x:Kd}(b:a[k]?=ai x):a.take (k+1)=a.take k++[x]:=by obtain⟨h,rfl⟩:=Zw b;exact Zu h
