import Derived.Test.YtfmeclmjdpbacaaGreatDoorX03
import Derived.Lib.BytesEntry
set_option maxRecDepth 100000
set_option maxHeartbeats 16000000
open Option renaming some->ai,none->an
open Bool renaming true->ay,false->ba
open Go.RowKit renaming Below->bg
open Decidable renaming decide->bq
open Go.Obj renaming cells->bs
open Go.Value renaming agg->ca,bool->ec,ownBlock->ef
open Or renaming inl->cr,inr->ct
open List renaming length->ed
open Go.World renaming cell?->eh,frozen?->ei,ownsRow->ej,grownBy->ek,setCell->el
namespace Go.Proofs.YtfmeclmjdpbacaaGreatDoor
open ChangeShapes WideShapes ChangeAt RowKit _root_.Go.Proofs.Tryz List World Value
variable{B b size n d c i f g m k:Nat}{w a:Zh}{e K:TypeId}{v P L:Value}{j t G x o l:Int}{T r:Option Nat}{R V:List Nat}{s:Zi}
def kC(x:Kd×Value):Zj:=[.string x.1.sum,Zg x.1.born,.string x.1.Q,x.2]
theorem Jl(x:Kd×Value):ed (kC x)=4:=rfl
structure Bc (w:Zh) (base:Nat) (T P L:Value) (rs:Zj) (ks:List Kd) (ps:List Pd) (ls:List Ld):Prop where
 len:ed rs=ed ks
 aw:ej w base 50 4 T (ed ks) (Af kC (ks.zip rs))
 C:∀(i:Nat) (k:Kd) (r:Value),ks[i]?=ai k->rs[i]?=ai r->ej w base 9 1 r (ed k.C) (k.C.map Value.string)
 pins:ej w base 148 2 P (ed ps) (Af pC ps)
 bh:ej w base 112 3 L (ed ls) (Af lC ls)
 nd:((T::P::L::rs).filterMap Value.ownBlock).Nodup
theorem CA(h:bg B w.drew a):bg B w a:=⟨h.os,h.tape,h.output,h.size,h.block⟩
theorem AB{d:Zj}(h:ej w b e size v n d):∃a c,v=Cx a n c:=by
 rcases h.2 with⟨rfl,rfl⟩|⟨g,f,i,rfl,_⟩
 .exact⟨_,_,rfl⟩
 exact⟨_,_,rfl⟩
theorem BU{a:Nat}{c:Zj}(h:ej w a e size v n c)(d:∀g,ef v=ai g->g≠b)(j:Nat)(u:Dg):ej (el w (Zd b j) u) a e size v n c:=
 ownsRow.kept h (Ao w b j u) (ct (λe=>d b e rfl))
theorem d8{a i b c e j f g:Dg}(h:Aa w d [a,i,b,c,e,j,f,g]):eh w (Zd d 0)=ai a/\eh w (Zd d 2)=ai b/\eh w (Zd d 3)=ai c/\eh w (Zd d 4)=ai e/\eh w (Zd d 6)=ai f/\eh w (Zd d 7)=ai g:=
 ⟨(h 0 _ rfl).1,(h 2 _ rfl).1,(h 3 _ rfl).1,(h 4 _ rfl).1,(h 6 _ rfl).1,(h 7 _ rfl).1⟩
def BJ(T P L:Value)(rs:Zj):List Nat:=(ef T).toList++((ef P).toList++((ef L).toList++rs.filterMap Value.ownBlock))
theorem Ho(T P L:Dg)(a:Zj):(T::P::L::a).filterMap ownBlock=BJ T P L a:=by unfold BJ;cases hT:ef T<;>cases hP:ef P<;>cases hL:ef L<;>simp[hT,hP,hL]
theorem ZZ{a P L:Option Nat}(h:(c::(T.toList++(P.toList++(L.toList++R)))).Nodup)(d:∀b∈c::(T.toList++(P.toList++(L.toList++R))),b<n)(f:∀g,r=ai g->n<=g)(hT:a=T\/∃t,a=ai t/\n<=t/\∀g,r=ai g->g≠t):(c::(a.toList++(P.toList++(L.toList++(R++r.toList))))).Nodup:=by
 rcases hT with rfl|⟨t,rfl,i,e⟩
 .cases a<;>cases P<;>cases L<;>cases r<;>simp_all [List.nodup_append]<;>grind
 cases T<;>cases P<;>cases L<;>cases r<;>simp_all [List.nodup_append]<;>grind
theorem NO{a:Nat}{P L:Option Nat}(h:(a::(T.toList++(P.toList++(L.toList++R)))).Nodup):
 (∀g,T=ai g->g≠a)/\(∀g,P=ai g->g≠a/\T≠ai g)/\(∀g,L=ai g->g≠a/\T≠ai g)/\(∀g∈R,g≠a/\T≠ai g):=by
 cases T<;>cases P<;>cases L<;>simp_all<;>grind
theorem Ar{w':Zh}{a:Nat}{b:Zj}(h:ej w a e size v n b)(k:∀g,ef v=ai g->w'.1[g]?=w.1[g]?):ej w' a e size v n b:=by
 refine⟨h.1,?_⟩;rcases h.2 with j|⟨g,c,d,rfl,f,i,rest⟩
 .exact cr j
 exact ct ⟨g,c,d,rfl,f,(k g rfl).ag i,rest⟩
theorem ET{c:C5}(b:(c.map (·.sum)).Nodup){u v:Kd}(d:u∈c)(e:v∈c)(h:u.sum=v.sum):u=v:=by
 induction c with
 |nil=>cases d
 |cons x xs ih=>
  simp only[map_cons,nodup_cons,mem_map,not_exists,not_and]at b;rcases Bh.1 d with a|a<;>rcases Bh.1 e with hv'|hv'
  .rw[a,hv']
  .exact absurd (a▸h.symm) (b.1 v hv')
  .exact absurd (hv'▸h) (b.1 u a)
  exact ih b.2 a hv'
def z7:Zj:=[Ze,Ze,Ze,Ze,Zb,Zb,Zb]
theorem SB(h:Aa w b z7):(eh w (Zd b 0)=ai Ze/\ei w ⟨b,0,an⟩=ba)/\(eh w (Zd b 1)=ai Ze/\ei w ⟨b,1,an⟩=ba)/\(eh w (Zd b 2)=ai Ze/\ei w ⟨b,2,an⟩=ba)/\(eh w (Zd b 3)=ai Ze/\ei w ⟨b,3,an⟩=ba)/\(eh w (Zd b 4)=ai Zb/\ei w ⟨b,4,an⟩=ba)/\(eh w (Zd b 5)=ai Zb/\ei w ⟨b,5,an⟩=ba)/\(eh w (Zd b 6)=ai Zb/\ei w ⟨b,6,an⟩=ba):=
 ⟨h 0 _ rfl,h 1 _ rfl,h 2 _ rfl,h 3 _ rfl,h 4 _ rfl,h 5 _ rfl,h 6 _ rfl⟩
theorem Acu(h:Aa w b z7)(a c d e f g i:Dg):Aa (el (el (el (el (el (el (el w (Zd b 0) a) (Zd b 1) c) (Zd b 2) d) (Zd b 3) e) (Zd b 4) f) (Zd b 5) g) (Zd b 6) i) b [a,c,d,e,f,g,i]:=
 (((((((h.set 0 a).set 1 c).set 2 d).set 3 e).set 4 f).set 5 g).set 6 i)
theorem Hx{d:Zj}(h:ej w c e size v n d)(a:∀g,ef v=ai g->g≠b)(f i j k l m o:Dg):ej (el (el (el (el (el (el (el w (Zd b 0) f) (Zd b 1) i) (Zd b 2) j) (Zd b 3) k) (Zd b 4) l) (Zd b 5) m) (Zd b 6) o) c e size v n d:=
 BU (BU (BU (BU (BU (BU (BU h a 0 _) a 1 _) a 2 _) a 3 _) a 4 _) a 5 _) a 6 _
theorem FX(h:bg B a w)(c:B<=b)(d e f g i j k:Dg):bg B a (el (el (el (el (el (el (el w (Zd b 0) d) (Zd b 1) e) (Zd b 2) f) (Zd b 3) g) (Zd b 4) i) (Zd b 5) j) (Zd b 6) k):=
 ((((((h.setCell c d).setCell c e).setCell c f).setCell c g).setCell c i).setCell c j).setCell c k
def Uh(b:Nat)(P L:Value):Prop:=(∀g,ef P=ai g->g≠b)/\(∀g,ef L=ai g->g≠b)/\(∀g,ef P=ai g->ef L=ai g->False)
theorem GH{zJ:Nat}{O:Dg}{wd R s c:Int}{p:C5}{z:C7}{t:C6}(A:Dr w zJ d m O P L wd R s c p z t)(yY:(p.map (·.sum)).Nodup)(xD:∀k∈p,(k.sum.size:Int)=wd)(hk:ed p<=600)(hp:ed z<=100)(hl:ed t<=200)(yA:∀k∈p,ed k.C<=30):
 D4 52 #[Yy d] w λe a=>∃T B q Z,e=C1 (ca #[Zg wd,Zg R,Zg s,Zg c,T,B,q])/\Bc a w.1.size T B q Z p z t/\Zz w a:=by
 obtain⟨pa,zP,rfl⟩:=AB A.co;obtain⟨la,zO,rfl⟩:=AB A.di;obtain⟨oa,xJ,rfl⟩:=AB A.ord;obtain⟨HD,xS,W,D⟩:=Yw A,A.box.lt,Du w Yi 30;have zU:=(Av D).1;have E:=(Av D).2.1;have G:Aa W w.1.size z7:=(Av D).2.2;have zK:=Yw (A.A zU);have F:Hid (∀X,Zz W X->D4 94 #[Cw pa z zP] X λe a=>∃B C,e=C1 (Cw B z C)/\ej a X.1.size 148 2 (Cw B z C) (ed z) (Af pC z)/\Zz X a):=
  λX J=>Kk zP (Bd.own (Ai zK.co J)) Yv
 have q:Hid (∀X,Zz W X->D4 95 #[Cw la t zO] X λe a=>∃B C,e=C1 (Cw B t C)/\ej a X.1.size 112 3 (Cw B t C) (ed t) (Af lC t)/\Zz X a):=
  λX J=>Jj zO (Ba.own (Ai zK.di J)) Yv
 have HS:Hid (∀X,Zz W X->eh X (Zd d 0)=ai (Zg wd)/\eh X (Zd d 2)=ai (Zg R)/\eh X (Zd d 3)=ai (Zg s)/\eh X (Zd d 4)=ai (Zg c)/\eh X (Zd d 6)=ai (Cw pa z zP)/\eh X (Zd d 7)=ai (Cw la t zO)):=
  λX J=>d8 (zK.box.A J)
 have U:bg W.1.size W W.drew:=Ae.drew;have Y:∀o,Zz W (W.alloc o).drew:=λo=>(Zy).drew;obtain⟨B,M,zB⟩:=Yw D,Yw G,Yw E;clear A D G E;delta D4;go_in;go_upto_region 1 with fail;rw[<-B.o];clear B;go_cut [3] (λv D=>∃(C:Nat) (G A:Zk) (H B:Nat),v=Yy C/\Hid (Aa D C (Yh wd R s c an 0 0 G (ed z) H A (ed t) B)/\ej D W.1.size 148 2 (Cw G z H) (ed z) (Af pC z)/\ej D W.1.size 112 3 (Cw A t B) (ed t) (Af lC t)/\Uh C (Cw G z H) (Cw A t B)/\W.1.size<=C/\Zz W D))
 case first=>
  go_region_held3 (λa=>eh a (Zd d 0)=ai (Zg wd)/\eh a (Zd d 2)=ai (Zg R)/\eh a (Zd d 3)=ai (Zg s)/\eh a (Zd d 4)=ai (Zg c)/\eh a (Zd d 6)=ai (Cw pa z zP)/\eh a (Zd d 7)=ai (Cw la t zO))
   (first
     |with_reducible exact HS.o _ U
     |with_reducible exact HS.o _ (Y _)
     |with_reducible exact HS.o _ I
     |with_reducible exact HS.o _ S
     |with_reducible exact HS.o _ (I.alloc I.size _)
     |with_reducible exact HS.o _ (S.alloc S.size _)
     |with_reducible exact HS.o _ (FX S V _ _ _ _ _ _ _))
   (first
     |(go_at_call 94;guard_target=~D4 94 _ (drew (alloc W _)) _;refine(F (W.alloc (bs Yi 30)).drew (Y _)).ah ?_;rintro e D ⟨G,H,rfl,N,zA⟩;have I:bg W.1.size W D:=(Y _).ag (zA.ah Yu);have nA:Aa D W.1.size z7:=(Aa.A (w:=W.alloc (bs Yi 30)) (Aa.new W _ _) (CA zA)))
     |(go_at_call 94;guard_target=~D4 94 _ (drew W) _;refine(F W.drew U).ah ?_;rintro e D ⟨G,H,rfl,N,zA⟩;have I:bg W.1.size W D:=U.ag zA)
     |(go_at_call 95;have zX:=nA;refine(q D I).ah ?_;rintro e w2 ⟨A,B,rfl,Q,E⟩;have S:bg W.1.size W w2:=I.ag (E.ah I.size);have n2:Aa w2 W.1.size z7:=(Aa.A nA E);have V:W.1.size<=W.1.size:=Zx;have⟨⟨y0,q0⟩,⟨y1,q1⟩,⟨y2,q2⟩,⟨y3,q3⟩,⟨y4,q4⟩,⟨y5,q5⟩,y6,q6⟩:=SB n2)
     |(go_at_call 95;guard_target=~D4 95 _ (alloc D _) _;refine(q (D.alloc (bs Yi 30)) (I.alloc I.size _)).ah ?_;rintro e w2 ⟨A,B,rfl,Q,E⟩;have S:bg W.1.size W w2:=(I.alloc I.size _).ag (E.ah (by have:=I.size;simp;omega));have nB:Aa w2 D.1.size z7:=(Aa.A (Aa.new D _ _) E);have V:W.1.size<=D.1.size:=I.size;have⟨⟨y0,q0⟩,⟨y1,q1⟩,⟨y2,q2⟩,⟨y3,q3⟩,⟨y4,q4⟩,⟨y5,q5⟩,y6,q6⟩:=SB nB)
     |(go_at_call 95;refine(q D I).ah ?_;rintro e w2 ⟨A,B,rfl,Q,E⟩;have nC:=N;have S:bg W.1.size W w2:=I.ag (E.ah I.size)))
  all_goals (go_wp2_with fail;go_meet)
  all_goals first
   |(have zX:=nA
     have zz:=zB.o;have l1:∀g,ef (Cw G z H)=ai g->W.1.size+1<=g/\g<D.1.size:=λg a=>by have:=Ab N a;simp at this;omega
     have l2:∀g,ef (Cw A t B)=ai g->D.1.size<=g:=λg a=>(Ab Q a).1;have z1:W.1.size+1<=D.1.size:=by have:=zA.size;simp at this;omega
     exact⟨W.1.size,G,A,H,B,rfl,Acu n2 _ _ _ _ _ _ _,Hx (Ai (N.ah Yu) E) (λg a=>C8 (l1 g a)) _ _ _ _ _ _ _,Hx (Q.ah Yv) (λg a=>C8 (l2 g a)) _ _ _ _ _ _ _,⟨λg a=>C8 (l1 g a),λg a=>C8 (l2 g a),λg a K=>by have:=l1 g a;have:=l2 g K;omega⟩,Zx,FX S (Zx) _ _ _ _ _ _ _⟩)
   |(have zX:=nB
     have l1:∀g,ef (Cw G z H)=ai g->W.1.size<=g/\g<D.1.size:=λg a=>by have:=Ab N a;simp at this;omega
     have l2:∀g,ef (Cw A t B)=ai g->D.1.size+1<=g:=λg a=>by have:=(Ab Q a).1;simp at this;omega
     exact⟨D.1.size,G,A,H,B,rfl,Acu nB _ _ _ _ _ _ _,Hx (Ai (Ai (N.ah Yu) (Zy)) E) (λg a=>C8 (l1 g a)) _ _ _ _ _ _ _,Hx (Q.ah Yt) (λg a=>C8 (l2 g a)) _ _ _ _ _ _ _,⟨λg a=>C8 (l1 g a),λg a=>C8 (l2 g a),λg a K=>by have:=l1 g a;have:=l2 g K;omega⟩,V,FX S V _ _ _ _ _ _ _⟩)
   |(have zX:=nC
     have l1:∀g,ef (Cw G z H)=ai g->W.1.size<=g/\g<D.1.size:=λg a=>by have:=Ab N a;simp at this;omega
     have l2:∀g,ef (Cw A t B)=ai g->D.1.size<=g/\g<w2.1.size:=λg a=>Ab Q a;have z2:=E.size;exact⟨w2.1.size,G,A,H,B,rfl,Aa.new w2 _ _,Ai (Ai (N.ah Yu) E) (Zy),Ai (Q.ah I.size) (Zy),⟨λg a=>C8 (l1 g a),λg a=>C8 (l2 g a),λg a K=>by have:=l1 g a;have:=l2 g K;omega⟩,S.size,S.alloc S.size _⟩)
 revert wc;intro wN hcut;obtain⟨C,G,A,H,B,rfl,HC⟩:=hcut;have yG:Hid (Zz w wN):=zU.ag (HC.2.2.2.2.2.ah zU.size);have K:=(zK.box.A HC.2.2.2.2.2);obtain⟨e5,_⟩:=K 5 _ rfl;have zN:=HC.2.2.2.2.2.size;have xW:W.1.size<=C:=HC.2.2.2.2.1;have yL:Hid (Aa wN w.1.size z7):=Aa.A (v:=Ze) (l:=z7.tail) M HC.2.2.2.2.2;clear K F q HS U Y M;go_wp2;go_loopw [40] (λi wr=>∃(k:Nat) (T:Dg) (Z:Zj),k<=ed p/\i=Zg k/\Hid (Aa wr C [Zg wd,Zg R,Zg s,Zg c,T,Cw G z H,Cw A t B]/\Aa wr w.1.size z7/\ej wr W.1.size 50 4 T k (Af kC ((p.take k).zip Z))/\ed Z=k/\(∀(i:Nat) (x:Kd) (r:Dg),(p.take k)[i]?=ai x->Z[i]?=ai r->ej wr W.1.size 9 1 r (ed x.C) (x.C.map string))/\ej wr W.1.size 148 2 (Cw G z H) (ed z) (Af pC z)/\ej wr W.1.size 112 3 (Cw A t B) (ed t) (Af lC t)/\(C::BJ T (Cw G z H) (Cw A t B) Z).Nodup)/\Zz w wr) (λi _=>ed p -(intOf i).toNat)
 case atStart=>
  refine⟨0,Zb,[],Aw _,rfl,⟨HC.1,yL,⟨rfl,cr ⟨rfl,rfl⟩⟩,rfl,λi x r q=>by simp at q,HC.2.1,HC.2.2.1,?_⟩,yG⟩;have h3:=HC.2.2.2.1;unfold Uh at h3;unfold BJ;generalize ef (Cw G z H)=x1 at *
  generalize ef (Cw A t B)=x2 at *
  cases x1<;>cases x2<;>simp_all [ownBlock]<;>grind
 obtain⟨k,T,Z,xT,rfl,HI,F⟩:=hrel;by_cases hlt:k<ed p
 case neg=>
  obtain rfl:k=ed p:=Yv;have⟨i1,i2,Y,i4,i5,i6,i7,i8⟩:=HI.o;obtain⟨zW,⟨y0,q0⟩,⟨y1,q1⟩,⟨y2,q2⟩,⟨y3,q3⟩,⟨y4,q4⟩,⟨y5,q5⟩,y6,q6⟩:=zB.o,SB i2;obtain⟨ta,tc,rfl⟩:=AB Y;obtain⟨x0,x1,x2,x3,x4,x5,x6⟩:=Aa.c7 i1 0 1 2 3 4 5 6;have xO:¬C=w.1.size:=Yv;have yE:¬w.1.size=C:=Yv;have x:=Yw (Zn i2 (Zn Y (Zn i4 (Zn i5 (Zn i6 (Zn i7 i8))))));clear i1 i2 Y i4 i5 i6 i7 i8 zW;go_wp2;have zW:=zB.o;have Y:∀{e:TypeId} {size:Nat} {v:Dg} {n:Nat} {xs:Zj},ej wr W.1.size e size v n xs->ej (el (el (el (el (el (el (el wr (Zd (w.1.size) 0) (Zg wd)) (Zd (w.1.size) 1) (Zg R)) (Zd (w.1.size) 2) (Zg s)) (Zd (w.1.size) 3) (Zg c)) (Zd (w.1.size) 4) (Cw ta p tc)) (Zd (w.1.size) 5) (Cw G z H)) (Zd (w.1.size) 6) (Cw A t B)) w.1.size e size v n xs:=λh=>ownsRow.ah (Hx h (λg a=>C8 (Ab h a).1) _ _ _ _ _ _ _) Yv;have yC:p.take (ed p)=p:=Zt (Zx);refine Co (ca (C4 wd R s c ta p tc G z H A t B)) (by simp[results,results52,go_sem,y0,y1,y2,y3,y4,y5,y6]) ⟨_,_,_,Z,rfl,⟨x.2.2.1,?_,?_,Y x.2.2.2.2.1,Y x.2.2.2.2.2.1,?_⟩,FX F (Zx) _ _ _ _ _ _ _⟩
  .have:=x.2.1;rw[yC]at this;exact Y this
  .intro i y r hy K;exact Y (x.2.2.2.1 i y r (by rw[yC];exact hy) K)
  rw[Ho];exact(nodup_cons.1 x.2.2.2.2.2.2).2
 obtain⟨n,f,hn,hM,hH⟩:=HD.map;have zV:=F.size;have ho:ej wr zJ 160 8 (Cw oa p xJ) (ed p) (AR (p.map (·.sum))):=Pw HD.ord F (λg a=>(Ab HD.ord a).2);obtain⟨og,oc,yT,_,xU⟩:=Cv ho (λe=>by injection e with _ h2 _;omega);cases yT;have K:p[k]∈p:=getElem_mem hlt;have xF:=xD _ K;have xP:=yA _ K;have h:(p.map (·.sum))[k]?=ai p[k].sum:=by simp[hlt]
 have q:∀j,j<8->eh wr (Zd og (k *8+j))=ai (.int .u8 (kB p[k].sum j)):=λj M=>(ho.cellAt _ Yv).ag (ED h M);have⟨M,rc,b,yI⟩:∃M rc,f (keyL p[k].sum)=ai (CG p[k] M rc)/\Hid (Ad w w.1.size M p[k].C):=by
  rcases hH _ xF with⟨_,yZ⟩|⟨u,M,rc,hu,xE,yV,xB⟩
  .exact absurd ⟨_,K,rfl⟩ yZ
  obtain rfl:=ET yY hu K xE;exact⟨M,rc,yV,xB.row⟩
 have gj:∀X,Zz wr X->(Instr.lookup 119 (.map (ai m)) (Ce p[k].sum) ba).run prog X=.ok (CG p[k] M rc) X:=λX J=>by have:=(hM.ak (F.ag (J.ah zV)) hM.lt).look keyed underlying119 (LN _) (CW p[k].sum);rw[b]at this;exact this
 have dr:Aa wr d _:=Aa.A HD.box F;have y:=q 0 Yv;have yM:=q 1 Yv;have yN:=q 2 Yv;have yO:=q 3 Yv;have yP:=q 4 Yv;have yQ:=q 5 Yv;have yR:=q 6 Yv;have yS:=q 7 Yv;rw[Nat.add_zero]at y;have HX:Hid (p.take (k+1)=p.take k++[p[k]]):=Zu hlt;unfold Ce CJ CG at gj;clear ho q h hH b K hM;generalize p[k]=x at *
 have⟨q,K⟩:=Du wr (Yk (kB x.sum)) 160;obtain⟨b,z1,K1⟩:=(Av K).1,(Av K).2.1,(Av K).2.2;have h:Hid (∀X,Zz q X->eh X (Zd d 1)=ai (.map (ai m))/\(eh X (Zd (wr.1.size) 0)=ai (.int .u8 (kB x.sum 0))/\eh X (Zd (wr.1.size) 1)=ai (.int .u8 (kB x.sum 1))/\eh X (Zd (wr.1.size) 2)=ai (.int .u8 (kB x.sum 2))/\eh X (Zd (wr.1.size) 3)=ai (.int .u8 (kB x.sum 3))/\eh X (Zd (wr.1.size) 4)=ai (.int .u8 (kB x.sum 4))/\eh X (Zd (wr.1.size) 5)=ai (.int .u8 (kB x.sum 5))/\eh X (Zd (wr.1.size) 6)=ai (.int .u8 (kB x.sum 6))/\eh X (Zd (wr.1.size) 7)=ai (.int .u8 (kB x.sum 7)))/\(Instr.lookup 119 (.map (ai m)) (ca (Yk (kB x.sum))) ba).run prog X=.ok (ca #[C0 x.sum,Zg x.born,C0 x.Q,Cw M x.C rc]) X):=
  λX J=>⟨((dr.A (b.ag (J.ah b.size))) 1 _ rfl).1,sk8 (J.block _ Yv) K1,gj X (b.ag (J.ah b.size))⟩
 have U:bg q.1.size q q.drew:=Ae.drew;have Y:∀o,Zz q (q.alloc o).drew:=λo=>(Zy).drew;obtain⟨o,zE,yF⟩:=Yw K,Yw z1,Yw b;clear K z1 gj K1 b dr;go_upto_region 5 with fail;rw[<-o.o];clear o y yM yN yO yP yQ yR yS;go_region_held3 (λX=>eh X (Zd d 1)=ai (.map (ai m))/\(eh X (Zd (wr.1.size) 0)=ai (.int .u8 (kB x.sum 0))/\eh X (Zd (wr.1.size) 1)=ai (.int .u8 (kB x.sum 1))/\eh X (Zd (wr.1.size) 2)=ai (.int .u8 (kB x.sum 2))/\eh X (Zd (wr.1.size) 3)=ai (.int .u8 (kB x.sum 3))/\eh X (Zd (wr.1.size) 4)=ai (.int .u8 (kB x.sum 4))/\eh X (Zd (wr.1.size) 5)=ai (.int .u8 (kB x.sum 5))/\eh X (Zd (wr.1.size) 6)=ai (.int .u8 (kB x.sum 6))/\eh X (Zd (wr.1.size) 7)=ai (.int .u8 (kB x.sum 7)))/\(Instr.lookup 119 (.map (ai m)) (ca (Yk (kB x.sum))) ba).run prog X=.ok (ca #[C0 x.sum,Zg x.born,C0 x.Q,Cw M x.C rc]) X)
  (first|with_reducible exact h.o _ U|with_reducible exact h.o _ (Y _))
  (fail)
 all_goals
  clear h U Y;have⟨X,K⟩:=Ag ((q.alloc (bs #[C0 x.sum,Zg x.born,C0 x.Q,Cw M x.C rc] 50)).drew);have b2:bg q.1.size q X:=by rw[K];exact(Zy).drew
  have z2:X.1.size=q.1.size+1:=by rw[K];simp
  have y:Aa X q.1.size [C0 x.sum,Zg x.born,C0 x.Q,Cw M x.C rc]:=by rw[K];exact Aa.new q _ _
  have z1:=zE.o;have b:bg wr.1.size wr X:=yF.ag (b2.ah Yv);have R2:Ad X X.1.size M x.C:=Ad.ah (Ad.A yI (F.ag (b.ah zV))) Yv;rw[<-K];obtain⟨k3,_⟩:=y 3 _ rfl;have zS:=Yw z2;have xA:ed x.C<=1048576:=Yv;clear K z1 z2;go_wp2_with fail;refine(DH rc R2 xA).ah ?_;rintro e o ⟨a3,c3,rfl,h,K⟩;clear k3;have z1:=zE.o;have z2:=zS.o;have U:bg wr.1.size wr o:=b.ag (K.ah Yv);obtain⟨z3,⟨i1,i2,Y,i4,i5,i6,i7,i8⟩,zW⟩:=K.size,HI.o,zB.o;have S3:=Aa.A i1 U;obtain⟨ta,tc,rfl⟩:=AB Y;obtain⟨s4,f4⟩:=S3 4 _ rfl;have xC:C<wr.1.size:=i1.lt;have zZ:¬C=q.1.size:=Yv;have xN:¬q.1.size=C:=Yv;obtain⟨⟨k0,k1,k2⟩,⟨k3,g3⟩,yK⟩:=Aa.c3 (Aa.A y K) 0 1 2,Aa.A y K 3 _ rfl,Yw (Ai Y U);have zF:∀g,ef (Cx ta k tc)=ai g->W.1.size<=g/\g<wr.1.size:=λg a=>Ab Y a;have zT:∀g,ef (Cw a3 x.C c3)=ai g->X.1.size<=g/\g<o.1.size:=λg a=>Ab h a;obtain⟨yH,zI,yJ⟩:=Yw h,Yw U,Yw S3;have xQ:W.1.size<=o.1.size:=Yv
  obtain⟨i0,hi,xG,xH,xI⟩:=info_parts Jv;have yB:=Yw z3;clear y b2 b R2 i1 i2 Y i4 i5 i6 i7 i8 K h U S3 z1 z2 z3 zW;go_wp2_with (first
   |(at_builtin;refine wpList_append_own_at _ rfl _ _ 26 rfl W.1.size 50 i0 _ 4 64 underlying26 hi xG xH xI rfl Yq _ k (Af kC ((p.take k).zip Z)) rfl ?d0 ⟨o.1.size,0,an⟩ 1 1 (kC (x,Cw a3 x.C c3)) rfl rfl ?d2 ?d3 ?d4 ?d5 ?d6 ?_)
   |go_in)
  case d0=>exact Ai (BU yK (λg a=>by have:=zF g a;have:=zE.o;omega) 3 _) (Zy)
  case d2=>
   intro j u hu;rw[A1,Ax];have:=(Aa.new (el o (Zd (q.1.size) 3) (Cw a3 x.C c3)) (kC (x,Cw a3 x.C c3)) 50) j u hu;simpa [kC]using this.1
  case d3=>
   intro u hu;simp[kC]at hu;rcases hu with rfl|rfl|rfl|rfl<;>rfl
  case d4=>unfold maxLen;omega
  case d5=>omega
  case d6=>simp;omega
  intro v4 w4 zC zH K zG;obtain⟨g4,c4,rfl,xK,xL⟩:=Cv zC (λe=>by subst e;rcases zC.2 with⟨_,hn⟩|⟨_,_,_,e,_⟩<;>first|omega|cases e);have⟨i1,i2,Y,i4,i5,i6,i7,i8⟩:=HI.o;obtain⟨nf,z1,z2,z3,zW⟩:=NO i8,zE.o,zS.o,yB.o,zB.o;have J:∀b,b<o.1.size->b≠q.1.size->ef (Cx ta k tc)≠ai b->w4.1[b]?=o.1[b]?:=λb U zA E=>by rw[zH.block b Yt (λe=>E e.symm),Below.heap_alloc _ _ _ Yt,Below.heap_setCell _ _ _ _ (C9 zA)]
  have S4:=Aa.same yJ (J C Yv zZ (λe=>nf.1 _ e rfl));obtain⟨⟨_,xR⟩,xV,_⟩:=S4 4 _ rfl,S4 4 _ rfl;have xM:g4≠C:=by
   rcases zG with ha|ha
   .exact nf.1 g4 ha.symm
   simp[ownBlock]at ha;omega
  have HF:=Yw (Zn S4 (Zn J (Zn zC (Zn zG zH))));clear S4 J zC zG zH i1 i2 Y i4 i5 i6 i7 i8 nf z1 z2 z3 zW s4 f4 k0 k1 k2 k3 g3 K;go_wp2;obtain⟨⟨S4,J,zC,zG,zH⟩,i1,i2,Y,i4,i5,i6,i7,i8⟩:=HF.o,HI.o;obtain⟨nf,z1,z2,z3,zW⟩:=NO i8,zE.o,zS.o,yB.o,zB.o;have hY:∀b,b<o.1.size->b≠q.1.size->b≠C->ef (Cx ta k tc)≠ai b->(el w4 (Zd C 4) (Yz g4 (k+1) c4)).1[b]?=o.1[b]?:=λb K h2 h3 h=>(Below.heap_setCell _ _ _ _ (C9 h3)).ag (J b K h2 h);have zM:∀b,b<wr.1.size->b≠C->ef (Cx ta k tc)≠ai b->(el w4 (Zd C 4) (Yz g4 (k+1) c4)).1[b]?=wr.1[b]?:=λb K h3 h=>(hY b Yv Yv h3 h).ag (zI.block b K);have yD:∀r∈Z,∀g,ef r=ai g->g<wr.1.size:=by
   intro r K g a;have⟨i,hi⟩:=A3 K;have yX:i<k:=C8 (Zw hi).1;exact(Ab (i5 i _ r (by rw[getElem?_take_of_lt yX];exact Zv Yv) hi) a).2
  refine⟨⟨k+1,Yz g4 (k+1) c4,Z++[Cw a3 x.C c3],Yv,Yn,⟨Aa.set S4 4 _,?_,?_,?_,?_,?_,?_,?_⟩,?_⟩,Ys⟩
  .exact Aa.same i2 (zM w.1.size Yv Yv (λe=>C8 (zF _ e).1))
  .rw[HX.o,zip_append (by rw[i4,Cl];omega),Cn];exact BU zC (λg a=>by simp[ownBlock]at a;omega) 4 _
  .simp[i4]
  .intro i y r hy K;rw[HX.o]at hy;have zY:ed (p.take k)=k:=(by rw[Cl];omega);rcases B0 i k with h|h
   .rw[getElem?_append_left Yv]at hy K;refine Ar (i5 i y r hy K) (λg a=> ?_);have:=nf.2.2.2 g (mem_filterMap.2 ⟨r,Zs K,a⟩);exact zM g (yD r (Zs K) g a) this.1 this.2
   have yW:i=k:=(by have:=(Zw K).1;simp at this;omega);subst yW;rw[getElem?_append_right Yv,zY,Nat.sub_self]at hy;rw[getElem?_append_right Yv,i4,Nat.sub_self]at K;simp at hy K;subst hy;subst K;refine Ar (ownsRow.ah yH Yv) (λg a=> ?_);have:=zT g a;exact hY g this.2 Yv Yv (λe=>C8 (zF g e).2)
  .exact Ar i6 (λg a=>zM g (Ab i6 a).2 (nf.2.1 g a).1 (nf.2.1 g a).2)
  .exact Ar i7 (λg a=>zM g (Ab i7 a).2 (nf.2.2.1 g a).1 (nf.2.2.1 g a).2)
  .unfold BJ;rw[filterMap_append];have yU:filterMap ownBlock [Cw a3 x.C c3]=(ef (Cw a3 x.C c3)).toList:=(by cases h:ef (Cw a3 x.C c3)<;>simp[h]);rw[yU];refine ZZ (n:=wr.1.size) i8 ?_ (λg a=>C8 (zT g a).1) ?_
   .intro b U;simp only[Bh,A5,A6,mem_filterMap]at U;rcases U with rfl|U|U|U|⟨r,K,U⟩
    .exact xC
    .exact(zF _ U).2
    .exact(Ab i6 U).2
    .exact(Ab i7 U).2
    exact yD r K b U
   rcases zG with ha|ha
   .exact cr ha
   refine ct ⟨o.1.size+1,C9 ha,Yv,λg a=>C8 (zT g a).2⟩
  have hq:bg w.1.size w o:=F.ag (zI.ah zV);exact(((hq.setCell Yt _).alloc Yt _).grown zH Yt (λg a=>C8 (zF g a).1)).setCell Yt _
def kI(s:Zi):List Int:=[kB s 0,kB s 1,kB s 2,kB s 3,kB s 4,kB s 5,kB s 6,kB s 7]
def FL(s t:Zi):Int:=Lib.compareBytes (Lib.bytesOf (kI s)) (Lib.bytesOf (kI t))
theorem Aaa(x:List UInt8):Lib.compareBytes x x=0:=by
 induction x with
 |nil=>rfl
 |cons a x ih=>unfold Lib.compareBytes;simp[ih,UInt8.lt_irrefl]
theorem PB(z:List UInt8):∀(x y:List UInt8),ed x=ed y->Lib.compareBytes (x++z) (y++z)=Lib.compareBytes x y
 |[],[],_=>by rw[nil_append,Aaa];rfl
 |a::x,b::y,h=>by have c:=PB z x y (C9 h);show Lib.compareBytes (a::(x++z)) (b::(y++z))=_;unfold Lib.compareBytes;rw[c]
theorem Ui:∀(x y:List UInt8),ed x=ed y->(Lib.compareBytes x y<0↔x<y)
 |[],[],_=>by simp[Lib.compareBytes]
 |a::x,b::y,h=>by
  have c:=Ui x y (C9 h);unfold Lib.compareBytes;rw[cons_lt_cons_iff,<-c];by_cases h1:a<b
  .simp[h1]
  by_cases h2:b<a
  .have:¬a=b:=λe=>by subst e;exact absurd h2 (UInt8.lt_irrefl _)
   simp[h1,h2,this]
  have:a=b:=UInt8.le_antisymm (UInt8.not_lt.1 h2) (UInt8.not_lt.1 h1);simp[this]
theorem RK:∀(x y:List UInt8),ed x=ed y->(Lib.compareBytes x y=0↔x=y)
 |[],[],_=>by simp[Lib.compareBytes]
 |a::x,b::y,h=>by
  have c:=RK x y (C9 h);unfold Lib.compareBytes;by_cases h1:a<b
  .have:¬a=b:=λe=>by subst e;exact absurd h1 (UInt8.lt_irrefl _)
   simp[h1,this]
  by_cases h2:b<a
  .have:¬a=b:=λe=>by subst e;exact absurd h2 (UInt8.lt_irrefl _)
   simp[h1,h2,this]
  have:a=b:=UInt8.le_antisymm (UInt8.not_lt.1 h2) (UInt8.not_lt.1 h1);simp[this,c]
theorem Mo(s:Zi)(h:s.size<=8):Lib.bytesOf (kI s)=s.data.toList++replicate (8 -s.size) 0:=by
 have c:=CI s;have b:∀i,(kB s i).toNat.toUInt8=(s.data.toList[i]?).getD 0:=λi=>by unfold kB;simp
 unfold kI Lib.bytesOf;simp only[map_cons,map_nil,b];apply ext_getElem?;intro i;rw[getElem?_append];rw[c];rcases B0 i 8 with a|a
 .have e:([(s.data.toList[0]?).getD 0,(s.data.toList[1]?).getD 0,(s.data.toList[2]?).getD 0,(s.data.toList[3]?).getD 0,(s.data.toList[4]?).getD 0,(s.data.toList[5]?).getD 0,(s.data.toList[6]?).getD 0,(s.data.toList[7]?).getD 0]:List UInt8)[i]?=ai ((s.data.toList[i]?).getD 0):=by rcases(show i=0\/i=1\/i=2\/i=3\/i=4\/i=5\/i=6\/i=7 by omega)with rfl|rfl|rfl|rfl|rfl|rfl|rfl|rfl<;>rfl
  rw[e];by_cases hi:i<s.size
  .rw[if_pos hi,Zv Yv];rfl
  rw[if_neg hi,getElem?_eq_none Yv,getElem?_replicate,if_pos Yv];rfl
 rw[getElem?_eq_none Yt,if_neg Yv,getElem?_eq_none Yt]
theorem VY{t:Zi}(b:s.size<=8)(a:t.size=s.size):FL s t<0↔less s t=ay:=by unfold FL less;rw[Mo s b,Mo t Yv,a,PB _ _ _ (by rw[CI,CI,a]),Ui _ _ (by rw[CI,CI,a]),ByteArray.toList_eq,ByteArray.toList_eq,Pv]
theorem Uj{t:Zi}(a:s.size<=8)(b:t.size=s.size):FL s t=0↔s=t:=by
 unfold FL;rw[Mo s a,Mo t Yv,b,PB _ _ _ Yt,RK _ _ Yt];constructor
 .intro h;exact toList_inj (by rw[ByteArray.toList_eq,ByteArray.toList_eq];exact h)
 rintro rfl;rfl
theorem PC(h:Aa w b (AZ s)):∀j x,(kI s)[j]?=ai x->eh w ((⟨b,0,an⟩:Addr).add j)=ai (.int .u8 x):=by intro j x a;rw[A1,Ax];have c:j<8:=(Zw a).1;refine(h j (.int .u8 x) ?_).1;unfold AZ CJ;unfold kI at a;rcases(show j=0\/j=1\/j=2\/j=3\/j=4\/j=5\/j=6\/j=7 by omega)with rfl|rfl|rfl|rfl|rfl|rfl|rfl|rfl<;>(simp at a;subst a;rfl)
theorem QU{a:Nat}(s t:Zi)(f:Aa w a (AZ s))(g:Aa w b (AZ t)):
 (callFunc 251 #[Yz a 8 8,Yz b 8 8]).run prog w=.ok (.value (Zg (FL s t))) w:=by
 rw[run_callFunc_extern (fn:=f251) (e:=Extern.BytealgCompare.compare) func251 Yr Yr Yr Yr];have c:=Lib.run_loadBytesX (P:=prog) w (kI s) ⟨a,0,an⟩ .empty (PC f);have d:=Lib.run_loadBytesX (P:=prog) w (kI t) ⟨b,0,an⟩ .empty (PC g);have h:∀l:List UInt8,(⟨ByteArray.empty.data++l.toArray⟩:Zi)=⟨l.toArray⟩:=λl=>by apply ByteArray.ext;show(#[]:Array UInt8)++l.toArray=l.toArray;simp
 rw[h]at c d;change (Sem.run prog (do pure (goInt (Extern.BytealgCompare.cmp (<-Extern.Bytes.bytesOf (Yz a 8 8)) (<-Extern.Bytes.bytesOf (Yz b 8 8))))) w).andThen _=_;simp only[Extern.Bytes.bytesOf,Sem.run_bind,Sem.run_pure];rw[show(8:Nat)=ed (kI s) from rfl,c];rw[Result.andThen_ok,show ed (kI s)=ed (kI t) from rfl,d];simp only[Result.andThen];rw[Lib.cmp_eq];rfl
theorem LP(w:Zh)(a b:Nat)(s t:Zi)(c:Aa w a (AZ s))(d:Aa w b (AZ t)):
 D4 246 #[Yz a 8 8,Yz b 8 8] w λe f=>e=C1 (Zg (FL s t))/\f=w:=by
 have f:=QU s t c d;clear c d;delta D4;go_in;go_wp2;go_ret;exact⟨rfl,rfl⟩
theorem Mp(s t:Zi)(w:Zh):
 D4 245 #[Ce s,Ce t] w λe a=>e=C1 (Zg (FL s t))/\Zz w a:=by
 have⟨W,a⟩:=Ag ((w.alloc (bs (Yk (kB s)) 160)).alloc (bs (Yk (kB t)) 160));have g:=(AT a).1;have d:Aa W w.1.size (AZ s):=by rw[a];exact Aa.A (v:=.int .u8 (kB s 0)) (Aa.new w (AZ s) 160) (Zy)
 have f:Aa W (w.1.size+1) (AZ t):=by have:=Aa.new (w.alloc (bs (Yk (kB s)) 160)) (AZ t) 160;rw[Aq]at this;rw[a];exact this
 have b:=Yw (Za d f);have c:=Yw a;clear a d f;unfold Ce CJ;delta D4;go_in;go_upto_region 1 with fail;rw[<-c.o];clear c;go_region_with (go_at_call 246;refine(LP W.drew w.1.size (w.1.size+1) s t b.1 b.2).ah ?_;rintro e a ⟨rfl,rfl⟩)
 all_goals
  go_wp2;go_ret;exact⟨rfl,g.drew⟩
structure FT (ss:Zl) (s:Zi) (i:Nat):Prop where
 le:i<=ed ss
 lo:∀j x,j<i->ss[j]?=ai x->less x s=ay
 hi:∀j x,i<=j->ss[j]?=ai x->less x s=ba
theorem Aab{a:Zl}(f:ej w b 160 8 (Yz g (ed a) d) (ed a) (AR a))(c:a[k]?=ai s):∀j,j<8->eh w (Zd g (k *8+j))=ai (.int .u8 (kB s j)):=λj e=>by have:=(Zw c).1;exact(f.cellAt _ Yv).ag (ED c e)
theorem Acv{a:Zl}(d:ej w b 160 8 (Yz g (ed a) c) (ed a) (AR a))(e:a[k]?=ai s):
 eh w (Zd g (k *8))=ai (.int .u8 (kB s 0))/\eh w (Zd g (k *8+1))=ai (.int .u8 (kB s 1))/\eh w (Zd g (k *8+2))=ai (.int .u8 (kB s 2))/\eh w (Zd g (k *8+3))=ai (.int .u8 (kB s 3))/\eh w (Zd g (k *8+4))=ai (.int .u8 (kB s 4))/\eh w (Zd g (k *8+5))=ai (.int .u8 (kB s 5))/\eh w (Zd g (k *8+6))=ai (.int .u8 (kB s 6))/\eh w (Zd g (k *8+7))=ai (.int .u8 (kB s 7)):=
 have h:=Aab d e
 ⟨C9 (h 0 Yq),h 1 Yq,h 2 Yq,h 3 Yq,h 4 Yq,h 5 Yq,h 6 Yq,h 7 Yq⟩
theorem Hz(h:Aa w g (AZ s)):
 eh w (Zd g 0)=ai (.int .u8 (kB s 0))/\eh w (Zd g 1)=ai (.int .u8 (kB s 1))/\eh w (Zd g 2)=ai (.int .u8 (kB s 2))/\eh w (Zd g 3)=ai (.int .u8 (kB s 3))/\eh w (Zd g 4)=ai (.int .u8 (kB s 4))/\eh w (Zd g 5)=ai (.int .u8 (kB s 5))/\eh w (Zd g 6)=ai (.int .u8 (kB s 6))/\eh w (Zd g 7)=ai (.int .u8 (kB s 7)):=
 ⟨(h 0 _ rfl).1,(h 1 _ rfl).1,(h 2 _ rfl).1,(h 3 _ rfl).1,(h 4 _ rfl).1,(h 5 _ rfl).1,(h 6 _ rfl).1,(h 7 _ rfl).1⟩
theorem Mq(g zE:Nat){f:Zl}(s:Zi){w:Zh}{zC:Nat}(l:ej w zC 160 8 (Cx (ai ⟨g,0,an⟩) (ed f) zE) (ed f) (AR f))(hl:ed f<=600)(zO:s.size<=8)(zH:∀x∈f,x.size=s.size)(n:f.Pairwise (λa b=>less a b=ay)):
 D4 244 #[Cx (ai ⟨g,0,an⟩) (ed f) zE,Ce s,.func (.func 245) #[] #[]] w λe w'=>∃i:Nat,e=C1 (.tuple #[Zg i,ec (bq (f[i]?=ai s))])/\FT f s i/\Zz w w':=by
 unfold Ce CJ;obtain⟨zM,W,c⟩:=(Ab l rfl).2,Du w (Yk (kB s)) 160;have N:=(Av c).1;have k:Aa W w.1.size (AZ s):=by rw[c];exact Aa.new w (AZ s) 160
 have d:=Ai l N;have o:Hid _:=c;have HO:Hid _:=d;have HC:Hid _:=k;have zP:=Aa.lt (v:=.int .u8 (kB s 0)) k;clear c d k l;delta D4;go_in;go_upto_region 1 with fail;rw[<-o.o];clear o;have c:=enters_of func245 Yr rfl;go_wp2;go_loopw [9,10] (λi j wr=>∃d k:Nat,i=Zg d/\j=Zg k/\d<=k/\k<=ed f/\Hid ((∀j x,j<d->f[j]?=ai x->less x s=ay)/\(∀j x,k<=j->f[j]?=ai x->less x s=ba))/\Zz W wr) (λi j _=>(intOf j).toNat -(intOf i).toNat)
 case atStart=>exact⟨0,ed f,rfl,rfl,Aw _,Zx,⟨λj x h=>Yv,λj x h c=>C8 (Zw c).1⟩,Ae⟩
 obtain⟨d,k,rfl,rfl,zN,zF,HI,c⟩:=hrel;have q:=c.size;by_cases hlt:d<k
 .have O:(d+k)/2<ed f:=Yv;have o:Hid _:=Zv O;have zK:=zH _ (getElem_mem O);generalize f[(d+k)/2]=x at *
  obtain⟨⟨r0,P,Q,R,S,T,r6,U⟩,V,X,Y,Z,a,b,i,t7⟩:=Acv (Ai HO c) o,Hz (Aa.A (v:=.int .u8 (kB s 0)) HC c);have r:=AA.cell r0 (show g<wr.1.size by omega);have u:=AA.cell P (show g<wr.1.size by omega);have z:=AA.cell Q (show g<wr.1.size by omega);have A:=AA.cell R (show g<wr.1.size by omega);have B:=AA.cell S (show g<wr.1.size by omega);have C:=AA.cell T (show g<wr.1.size by omega);have D:=AA.cell r6 (show g<wr.1.size by omega);have E:=AA.cell U (show g<wr.1.size by omega);have F:=AA.cell V (show w.1.size<wr.1.size by omega);have G:=AA.cell X (show w.1.size<wr.1.size by omega);have H:=AA.cell Y (show w.1.size<wr.1.size by omega);have I:=AA.cell Z (show w.1.size<wr.1.size by omega);have J:=AA.cell a (show w.1.size<wr.1.size by omega);have K:=AA.cell b (show w.1.size<wr.1.size by omega);have L:=AA.cell i (show w.1.size<wr.1.size by omega);have M:=AA.cell t7 (show w.1.size<wr.1.size by omega);have zG:=AA.ne wr;have l:Hid (∀m:AA wr,D4 245 #[ca (Yk (kB x)),ca (Yk (kB s))] m.w λe w'=>e=C1 (Zg (FL x s))/\bg m.w.1.size m.w w'):=λm=>Mp x s m.w;clear r0 P Q R S T r6 U V X Y Z a b i t7;have zA:Hid _:=VY (s:=x) (t:=s) Yv Yv;by_cases hc:FL x s<0
  .have hd:bq (FL x s<0)=ay:=Yt;go_wp2;refine AN Yr Yr ?_
   repeat (go_big_quiet_step (exact AA.calls (l _)))
   refine wpQuiet_nil ?_;intro m;clear r u z A B C D E F G H I J K L M l;go_wp2;refine⟨⟨(d+k)/2+1,k,Yn,rfl,Yv,zF,⟨?_,HI.2⟩,c.ag (m.h.ah q)⟩,Ys⟩;intro j y hj p;rcases B0 j ((d+k)/2)with h|h
   .have:=pairwise_iff_getElem.1 n j ((d+k)/2) Yv O h;obtain⟨_,rfl⟩:=Zw p;have⟨_,e⟩:=Zw o;rw[e]at this;exact CE this (zA.1 hc)
   obtain rfl:j=(d+k)/2:=Yv;rw[o.o]at p;cases p;exact zA.1 hc
  have hd:bq (FL x s<0)=ba:=Yt;have zI:Hid _:=hc;clear hc;go_wp2;refine AN Yr Yr ?_
  repeat (go_big_quiet_step (exact AA.calls (l _)))
  refine wpQuiet_nil ?_;intro m;clear r u z A B C D E F G H I J K L M l;go_wp2;refine⟨⟨d,(d+k)/2,rfl,Yn,Yv,Yv,⟨HI.1,?_⟩,c.ag (m.h.ah q)⟩,Ys⟩;have zB:less x s=ba:=by
   cases h:less x s with
   |false=>rfl
   |true=>exact absurd (zA.2 h) zI
  intro j y hj p;rcases B0 ((d+k)/2) j with h|h
  .have zJ:=(Zw p).1;have:=pairwise_iff_getElem.1 n ((d+k)/2) j O zJ h;obtain⟨_,rfl⟩:=Zw p;have⟨_,e⟩:=Zw o;rw[e]at this;cases h':less f[j] s with
   |false=>rfl
   |true=>rw[CE this h']at zB;cases zB
  obtain rfl:j=(d+k)/2:=Yv;rw[o.o]at p;cases p;exact zB
 obtain rfl:d=k:=Yv;have HP:Hid (FT f s d):=⟨zF,HI.1,HI.2⟩;by_cases hn:d<ed f
 case neg=>
  have zG:=AA.ne wr;go_wp2;refine AN Yr Yr ?_
  repeat (go_big_quiet_step (fail))
  refine wpQuiet_nil ?_;intro m;go_wp2
  go_ret2
  refine⟨d,?_,HP,N.ag ((c.ag (m.h.ah q)).ah N.size)⟩;rw[getElem?_eq_none Yv,decide_eq_false Yu];rfl
 have o:Hid _:=Zv hn;have zK:=zH _ (getElem_mem hn);generalize f[d]=x at *
 obtain⟨⟨r0,P,Q,R,S,T,r6,U⟩,V,X,Y,Z,a,b,i,t7⟩:=Acv (Ai HO c) o,Hz (Aa.A (v:=.int .u8 (kB s 0)) HC c);have r:=AA.cell r0 (show g<wr.1.size by omega);have u:=AA.cell P (show g<wr.1.size by omega);have z:=AA.cell Q (show g<wr.1.size by omega);have A:=AA.cell R (show g<wr.1.size by omega);have B:=AA.cell S (show g<wr.1.size by omega);have C:=AA.cell T (show g<wr.1.size by omega);have D:=AA.cell r6 (show g<wr.1.size by omega);have E:=AA.cell U (show g<wr.1.size by omega);have F:=AA.cell V (show w.1.size<wr.1.size by omega);have G:=AA.cell X (show w.1.size<wr.1.size by omega);have H:=AA.cell Y (show w.1.size<wr.1.size by omega);have I:=AA.cell Z (show w.1.size<wr.1.size by omega);have J:=AA.cell a (show w.1.size<wr.1.size by omega);have K:=AA.cell b (show w.1.size<wr.1.size by omega);have L:=AA.cell i (show w.1.size<wr.1.size by omega);have M:=AA.cell t7 (show w.1.size<wr.1.size by omega);have zG:=AA.ne wr;have l:Hid (∀m:AA wr,D4 245 #[ca (Yk (kB x)),ca (Yk (kB s))] m.w λe w'=>e=C1 (Zg (FL x s))/\bg m.w.1.size m.w w'):=λm=>Mp x s m.w;clear r0 P Q R S T r6 U V X Y Z a b i t7;have P:Hid _:=Uj (s:=x) (t:=s) Yv Yv;by_cases hc:FL x s=0
 .have hd:(FL x s==0)=ay:=Yt;go_wp2;refine AN Yr Yr ?_
  repeat (go_big_quiet_step (exact AA.calls (l _)))
  refine wpQuiet_nil ?_;intro m;clear r u z A B C D E F G H I J K L M l;go_wp2
  go_ret2
  refine⟨d,?_,HP,N.ag ((c.ag (m.h.ah q)).ah N.size)⟩;rw[o.o,P.1 hc,decide_eq_true rfl];rfl
 have hd:(FL x s==0)=ba:=Yt;go_wp2;refine AN Yr Yr ?_
 repeat (go_big_quiet_step (exact AA.calls (l _)))
 refine wpQuiet_nil ?_;intro m;clear r u z A B C D E F G H I J K L M l;go_wp2
 go_ret2
 refine⟨d,?_,HP,N.ag ((c.ag (m.h.ah q)).ah N.size)⟩;rw[o.o,decide_eq_false (λe=>hc (P.2 (A2 e)))];rfl
section
open Go.WideElems Go.MapKept Go.ChangeMaps
open Classical in
noncomputable def gm (f:Lit->Option Value) (kl:Lit):Lit->Option Value:=fun x=>if x=kl then an else f x
theorem AY.del{t:TypeId}{f:Lit->Option Value}(h:AY w K b n f)(p:Maps.Keyed prog K)(u:prog.underlying t=ai (.map K e)){j:Dg}{a:Lit}(d:keyOf prog K j=ai a)(k:TypeId):
 ∃c,(Builtin.delete_ #[t,K] k #[.map (ai b),j]).run prog w=.ok (.tuple #[]) c/\AY c K b n (gm f a)/\ek w c (ai b):=by
 obtain⟨D,l,m,o⟩:=h;obtain⟨c,s,r,y,clock,v,g,A,rfl⟩:=l.drop p u d k;refine⟨_,s,⟨_,r,λx z=> ?_,λx=> ?_⟩,?_⟩
 .by_cases hx:x=a
  .subst hx;rw[Maps.atKey_del_same];simp[gm]
  rw[Maps.atKey_del_other hx,m];simp[gm,hx]
 .by_cases hx:x=a
  .subst hx;rw[Maps.has_del_same];simp[gm]
  rw[Maps.has_del_other hx,o];simp[gm,hx]
 refine⟨rfl,rfl,rfl,by simp[setBlock],λi _ q=> ?_⟩;simp only[setBlock];rw[Array.getElem?_setIfInBounds_ne (λe=>q (by rw[e]))]
theorem LQ{a:Nat}{c:Zj}:∀(vs:Zj) (o:Nat) (w:Zh),ej w a e size (Yz g n b) n c->n *size<=o->ej (w.setCells g o vs) a e size (Yz g n b) n c
 |[],_,_,h,_=>h
 |v::r,o,w,h,ho=>by rw[setCells];refine LQ r (o+1) _ ?_ Yv;have:=(h.stored o v).1;rw[set_eq_of_length_le (by rw[h.1];exact ho)]at this;exact this
theorem EF(g:Nat):∀(vs:Zj) (o:Nat) (w:Zh),ek w (w.setCells g o vs) (ai g)
 |[],_,w=>⟨rfl,rfl,rfl,Zx,λ_ _ _=>rfl⟩
 |v::r,o,w=>by rw[setCells];exact AF (Ao w g o v) (EF g r (o+1) _)
theorem FY(h:ek w.drew a r):ek w a r:=⟨h.os,h.tape,h.output,h.size,h.block⟩
theorem Uk(m g j:Nat)(P L:Dg)(J A n h:Int)(c:List Kd)(s:Zi)(k:Aa w d [Zg J,.map (ai m),Zg A,Zg n,Zg h,Yz g (ed c) j,P,L])(l:ej w f 160 8 (Yz g (ed c) j) (ed c) (AR (c.map (·.sum))))(K:ed c<=600)(v:s.size<=8)(z:∀x∈c,x.sum.size=s.size)(o:(c.map (·.sum)).Pairwise (λa b=>less a b=ay)):
 D4 224 #[Yy d,Ce s] w λe p=>∃i:Nat,e=.returned (.tuple #[Zg i,ec (bq ((c.map (·.sum))[i]?=ai s))])/\FT (c.map (·.sum)) s i/\Zz w p:=by
 have⟨W,q⟩:=Du w (Yk (kB s)) 160;have p:=(Av q).1;have u:Aa W w.1.size (AZ s):=by rw[q];exact Aa.new w (AZ s) 160
 have r:ej W.drew f 160 8 (Yz g (ed (c.map (·.sum))) j) (ed (c.map (·.sum))) (AR (c.map (·.sum))):=by rw[A7];exact Ai l p.drew
 have HS:=Yw (Mq g j s r Yt v (λx t=>by obtain⟨y,H,rfl⟩:=mem_map.1 t;exact z y H) o);rw[A7]at HS;have G:eh W.drew (Zd d 5)=ai (Yz g (ed c) j)/\(eh W.drew (Zd (w.1.size) 0)=ai (.int .u8 (kB s 0))/\eh W.drew (Zd (w.1.size) 1)=ai (.int .u8 (kB s 1))/\eh W.drew (Zd (w.1.size) 2)=ai (.int .u8 (kB s 2))/\eh W.drew (Zd (w.1.size) 3)=ai (.int .u8 (kB s 3))/\eh W.drew (Zd (w.1.size) 4)=ai (.int .u8 (kB s 4))/\eh W.drew (Zd (w.1.size) 5)=ai (.int .u8 (kB s 5))/\eh W.drew (Zd (w.1.size) 6)=ai (.int .u8 (kB s 6))/\eh W.drew (Zd (w.1.size) 7)=ai (.int .u8 (kB s 7))):=⟨(Aa.A k p 5 _ rfl).1,Hz u⟩;have t:=Yw q;clear q u r k l;unfold Ce CJ at *
 delta D4;go_in;go_upto_region 1 with fail;rw[<-t.o];clear t;obtain⟨I,r,t,u,B,C,D,E,F⟩:=G;go_region_with (go_at_call 244;refine HS.Ak ?_;rintro e M ⟨i,rfl,q,l⟩)
 all_goals
  have k:=Yw (Zn q (p.ag ((CA l).ah p.size)));clear q l I r t u B C D E F HS;go_wp2
  go_ret2
  exact⟨i,by first|rfl|simp[Act.put],k.1,k.2⟩
end
theorem VZ(x:Zi)(w:Zh):D4 247 #[C0 x] w λe a=>e=C1 (ec ba)/\Zz w a:=by delta D4;go_in;go_wp2;go_ret;exact⟨Yu,Ae⟩
theorem Wa(x:Zi)(w:Zh):D4 232 #[C0 x] w λe a=>e=C1 (ec ba)/\Zz w a:=by delta D4;go_in;go_wp2;go_ret;exact⟨Yu,Ae⟩
theorem Ul(x y:Zi)(w:Zh):D4 231 #[C0 x,C0 y] w λe a=>e=C1 (ec (less x y))/\Zz w a:=by delta D4;go_in;unfold less;go_wp2_with (go_at_call 247;refine(VZ x w).ah ?_;rintro e b ⟨rfl,a⟩);go_wp2;go_ret;exact⟨Yu,a⟩
theorem QV{a:Zk}(I:Nat){g:Zl}(s:Zi)(p:Ad w w.1.size a g)(P:ed g<=1000)(k:g.Pairwise (λa b=>less a b=ay)):
 D4 204 #[Cx a (ed g) I,C0 s] w λe c=>∃(i:Int) (ok:Bool),e=C1 (.tuple #[Zg i,ec ok])/\(ok=ay↔s∈g)/\Zz w c:=by
 delta D4;go_in;go_wp2;go_loopw [7,8] (λi j wr=>∃c f:Nat,i=Zg c/\j=Zg f/\c<=f/\f<=ed g/\Hid ((∀j x,j<c->g[j]?=ai x->less x s=ay)/\(∀j x,f<=j->g[j]?=ai x->less x s=ba))/\Zz w wr) (λi j _=>(intOf j).toNat -(intOf i).toNat)
 case atStart=>exact⟨0,ed g,rfl,rfl,Aw _,Zx,⟨λj x h=>Yv,λj x h E=>C8 (Zw E).1⟩,Ae⟩
 obtain⟨c,f,rfl,rfl,O,J,z,d⟩:=hrel;have C:=d.size;by_cases hlt:c<f
 .have r:(c+f)/2<ed g:=Yv;obtain⟨m,b,K,D,L,l⟩:=Yw (Zv r),(p.A d).at r;subst D;have E:=l _ _ m;clear l;generalize g[(c+f)/2]=x at *
  go_wp2_with fail;refine(Ul x s wr).ah ?_;rintro e N ⟨rfl,u⟩;have B:=d.ag (u.ah C);by_cases l:less x s=ay
  .rw[l];go_wp2;refine⟨⟨(c+f)/2+1,f,Yn,rfl,Yv,J,⟨?_,z.2⟩,B⟩,Ys⟩;intro j y q n;rcases B0 j ((c+f)/2)with h|h
   .have:=pairwise_iff_getElem.1 k j ((c+f)/2) Yv r h;obtain⟨_,rfl⟩:=Zw n;have⟨_,e⟩:=Zw m;rw[e]at this;exact CE this l
   obtain rfl:j=(c+f)/2:=Yv;rw[m.o]at n;cases n;exact l
  have t:less x s=ba:=C9 l;rw[t];go_wp2;refine⟨⟨c,(c+f)/2,rfl,Yn,Yv,Yv,⟨z.1,?_⟩,B⟩,Ys⟩;intro j y q n;rcases B0 ((c+f)/2) j with h|h
  .have v:=(Zw n).1;have:=pairwise_iff_getElem.1 k ((c+f)/2) j r v h;obtain⟨_,rfl⟩:=Zw n;have⟨_,e⟩:=Zw m;rw[e]at this;cases A:less g[j] s with
   |false=>rfl
   |true=>rw[CE this A]at t;cases t
  obtain rfl:j=(c+f)/2:=Yv;rw[m.o]at n;cases n;exact t
 obtain rfl:c=f:=Yv;have o:s∈g->g[c]?=ai s:=λF=>by
  have⟨j,q⟩:=A3 F;rcases B0 j c with h|h
  .have:=z.1 j s h q;rw[Cz]at this;cases this
  rcases B0 c j with A|A
  .have v:=(Zw q).1;have G:=pairwise_iff_getElem.1 k c j Yv v A;obtain⟨H,_,e⟩:=z.2 c _ (Zx) (Zv Yv),Zw q;rw[e]at G;rw[G]at H;cases H
  obtain rfl:j=c:=Yv;exact q
 have F:=Yw o;clear o;by_cases hn:c<ed g
 .obtain⟨m,b,K,D,L,l⟩:=Yw (Zv hn),(p.A d).at hn;subst D;have E:=l _ _ m;clear l;generalize g[c]=x at *
  by_cases he:x=s
  .subst he;have l:=Zs m;have o:=Yw l;clear l;have M:(x.toList==x.toList)=ay:=Yu;go_wp2
   go_ret2
   exact⟨_,ay,by first|rfl|simp[Act.put],⟨λ_=>o.o,λ_=>rfl⟩,d⟩
  have l:¬s∈g:=by intro h;have:=F h;rw[m.o]at this;exact he (A2 this)
  have o:=Yw l;clear l;have M:=BZ he;go_wp2_with (go_at_call 232;refine(Wa x wr).ah ?_;rintro e N ⟨rfl,u⟩);go_wp2
  go_ret2
  exact⟨_,ba,by first|rfl|simp[Act.put],⟨(λh=>by cases h),(λh=>absurd h o)⟩,d.ag (u.ah C)⟩
 have l:¬s∈g:=by intro h;have:=(Zw (F h)).1;omega
 have o:=Yw l;clear l;go_wp2
 go_ret2
 exact⟨_,ba,by first|rfl|simp[Act.put],⟨(λh=>by cases h),(λh=>absurd h o)⟩,d⟩
section
attribute [local go_sem↓] Go.wp_at_zero Go.wp_at_succ
theorem SC(p:Pd)(s:Zi)(b:Nat)(w:Zh)(d:eh w (Zd b 0)=ai (C0 s)):
 D4 199 #[ca #[C0 p.name,C0 p.sum],Yy b] w λe a=>e=C1 (ec (bq (p.sum=s)))/\Zz w a:=by
 have i:b<w.1.size:=A4 w _ d;have g:¬w.1.size=b:=Yv;have c:∀o,Zz w (w.alloc o):=λo=>Zy;by_cases h:p.sum=s
 .have f:(p.sum.toList==s.toList)=ay:=by rw[h];simp
  have a:bq (p.sum=s)=ay:=Yt;clear h;delta D4;go_in;go_wp2;go_ret;exact⟨by rw[a];rfl,c _⟩
 have f:(p.sum.toList==s.toList)=ba:=BZ h;have a:bq (p.sum=s)=ba:=Yt;clear h;delta D4;go_in;go_wp2;go_ret;exact⟨by rw[a];rfl,c _⟩
theorem PD{a:Zk}(u b:Nat){d:C7}(s:Zi)(g:Bd w w.1.size a d)(K:ed d<=1048576)(q:eh w (Zd b 0)=ai (C0 s)):
 D4 228 #[Cx a (ed d) u,.func (.func 199) #[] #[Yy b]] w λe c=>∃r:Int,e=C1 (Zg r)/\(0<=r↔∃p∈d,p.sum=s)/\Zz w c:=by
 have z:=A4 w _ q;delta D4;go_in;go_wp2;go_loopw [8] (λi wr=>∃k:Nat,k<=ed d/\i=Zg k/\Hid (∀j x,j<k->d[j]?=ai x->¬x.sum=s)/\Zz w wr) (λi _=>ed d -(intOf i).toNat)
 case atStart=>exact⟨0,Aw _,rfl,(λj x h=>Yv),Ae⟩
 obtain⟨k,J,rfl,f,c⟩:=hrel;have B:=c.size;by_cases hlt:k<ed d
 case neg=>go_wp2;go_ret;refine⟨_,rfl,⟨λh=>Yv,λ⟨p,hp,h⟩=> ?_⟩,c⟩;obtain⟨j,t,rfl⟩:=getElem_of_mem hp;exact absurd h (f j _ Yv (Zv t))
 obtain⟨F,E,D,I,l⟩:=(g.A c).at hlt;subst D;have m:=Yw (Zv hlt);obtain⟨G,H⟩:=l k _ m;have A:=(c.cell (p:=⟨b,0,an⟩) z).ag q;clear l g;generalize d[k]=x at *
 go_wp2_with fail;refine(SC x s b wr A).ah ?_;rintro e L ⟨rfl,v⟩;have g:=c.ag (v.ah B);by_cases h:x.sum=s
 .have l:bq (x.sum=s)=ay:=Yt;rw[l];go_wp2;go_ret;exact⟨_,rfl,⟨λ_=>⟨x,Zs m,h⟩,λ_=>Yv⟩,g⟩
 have C:Hid (∀j y,j<k+1->d[j]?=ai y->¬y.sum=s):=by
  intro j y t n;rcases B0 j k with o|o
  .exact f j y o n
  obtain rfl:j=k:=Yv;rw[m.o]at n;cases n;exact h
 have l:bq (x.sum=s)=ba:=Yt;rw[l];clear h;go_wp2;exact⟨⟨k+1,Yv,Yn,C,g⟩,Ys⟩
theorem Mr{a:Zk}(f b:Nat){c:C7}(s:Zi)(d:Bd w w.1.size a c)(l:ed c<=1048576)(k:eh w (Zd b 0)=ai (C0 s)):
 D4 198 #[Cx a (ed c) f,.func (.func 199) #[] #[Yy b]] w λe i=>∃g,e=C1 (ec g)/\(g=ay↔∃p∈c,p.sum=s)/\Zz w i:=by
 delta D4;go_in;go_wp2_with fail;refine(PD f b s d l k).ah ?_;rintro e m ⟨r,rfl,j,g⟩;have i:=Yw j;clear j;by_cases h:0<=r
 .have j:bq ((0:Int)<=r)=ay:=Yt;go_wp2;go_ret;exact⟨ay,rfl,⟨(λ_=>i.1 h),(λ_=>rfl)⟩,g⟩
 have j:bq ((0:Int)<=r)=ba:=Yt;go_wp2;go_ret;exact⟨ba,rfl,⟨(λe=>by cases e),(λe=>absurd (i.2 e) Yv)⟩,g⟩
theorem PE(p:Ld)(s:Zi)(b:Nat)(w:Zh)(d:eh w (Zd b 0)=ai (C0 s)):
 D4 201 #[ca #[Zg p.M,C0 p.sum,Zg p.ci],Yy b] w λe a=>e=C1 (ec (bq (p.sum=s)))/\Zz w a:=by
 have i:b<w.1.size:=A4 w _ d;have g:¬w.1.size=b:=Yv;have c:∀o,Zz w (w.alloc o):=λo=>Zy;by_cases h:p.sum=s
 .have f:(p.sum.toList==s.toList)=ay:=by rw[h];simp
  have a:bq (p.sum=s)=ay:=Yt;clear h;delta D4;go_in;go_wp2;go_ret;exact⟨by rw[a];rfl,c _⟩
 have f:(p.sum.toList==s.toList)=ba:=BZ h;have a:bq (p.sum=s)=ba:=Yt;clear h;delta D4;go_in;go_wp2;go_ret;exact⟨by rw[a];rfl,c _⟩
theorem Nd{a:Zk}(u b:Nat){d:C6}(s:Zi)(g:Ba w w.1.size a d)(L:ed d<=1048576)(q:eh w (Zd b 0)=ai (C0 s)):
 D4 229 #[Cx a (ed d) u,.func (.func 201) #[] #[Yy b]] w λe c=>∃r:Int,e=C1 (Zg r)/\(0<=r↔∃p∈d,p.sum=s)/\Zz w c:=by
 have z:=A4 w _ q;delta D4;go_in;go_wp2;go_loopw [8] (λi wr=>∃k:Nat,k<=ed d/\i=Zg k/\Hid (∀j x,j<k->d[j]?=ai x->¬x.sum=s)/\Zz w wr) (λi _=>ed d -(intOf i).toNat)
 case atStart=>exact⟨0,Aw _,rfl,(λj x h=>Yv),Ae⟩
 obtain⟨k,K,rfl,f,c⟩:=hrel;have B:=c.size;by_cases hlt:k<ed d
 case neg=>go_wp2;go_ret;refine⟨_,rfl,⟨λh=>Yv,λ⟨p,hp,h⟩=> ?_⟩,c⟩;obtain⟨j,t,rfl⟩:=getElem_of_mem hp;exact absurd h (f j _ Yv (Zv t))
 obtain⟨F,E,D,J,l⟩:=(g.A c).at hlt;subst D;have m:=Yw (Zv hlt);obtain⟨G,H,I⟩:=l k _ m;have A:=(c.cell (p:=⟨b,0,an⟩) z).ag q;clear l g;generalize d[k]=x at *
 go_wp2_with fail;refine(PE x s b wr A).ah ?_;rintro e M ⟨rfl,v⟩;have g:=c.ag (v.ah B);by_cases h:x.sum=s
 .have l:bq (x.sum=s)=ay:=Yt;rw[l];go_wp2;go_ret;exact⟨_,rfl,⟨λ_=>⟨x,Zs m,h⟩,λ_=>Yv⟩,g⟩
 have C:Hid (∀j y,j<k+1->d[j]?=ai y->¬y.sum=s):=by
  intro j y t n;rcases B0 j k with o|o
  .exact f j y o n
  obtain rfl:j=k:=Yv;rw[m.o]at n;cases n;exact h
 have l:bq (x.sum=s)=ba:=Yt;rw[l];clear h;go_wp2;exact⟨⟨k+1,Yv,Yn,C,g⟩,Ys⟩
theorem Lf{a:Zk}(f b:Nat){c:C6}(s:Zi)(d:Ba w w.1.size a c)(l:ed c<=1048576)(k:eh w (Zd b 0)=ai (C0 s)):
 D4 200 #[Cx a (ed c) f,.func (.func 201) #[] #[Yy b]] w λe i=>∃g,e=C1 (ec g)/\(g=ay↔∃p∈c,p.sum=s)/\Zz w i:=by
 delta D4;go_in;go_wp2_with fail;refine(Nd f b s d l k).ah ?_;rintro e m ⟨r,rfl,j,g⟩;have i:=Yw j;clear j;by_cases h:0<=r
 .have j:bq ((0:Int)<=r)=ay:=Yt;go_wp2;go_ret;exact⟨ay,rfl,⟨(λ_=>i.1 h),(λ_=>rfl)⟩,g⟩
 have j:bq ((0:Int)<=r)=ba:=Yt;go_wp2;go_ret;exact⟨ba,rfl,⟨(λe=>by cases e),(λe=>absurd (i.2 e) Yv)⟩,g⟩
theorem SD{O:Dg}{c a:Int}{C:C5}{k:C7}{j:C6}(s:Zi)(i:Dr w n d m O P L G x c a C k j)(J:ed k<=100)(I:ed j<=200):
 D4 159 #[Yy d,C0 s] w λe f=>∃b,e=C1 (ec b)/\(b=ay↔(∃p∈k,p.sum=s)\/∃l∈j,l.sum=s)/\Zz w f:=by
 have H:∀(fn:Fn) (first cap:Array Value) (w:Zh),(Instr.makeFunc fn first cap).run prog w=.ok (.func fn first cap) w:=λ_ _ _ _=>rfl;obtain⟨E,A,rfl⟩:=AB i.co;obtain⟨D,v,rfl⟩:=AB i.di;have⟨W,h⟩:=Du w #[C0 s] 9;have g:=(Av h).1;have f:eh W (Zd (w.1.size) 0)=ai (C0 s):=by rw[h];simp
 have b:=i.A g;obtain⟨⟨c6,t⟩,o,q⟩:=Aa.c2 b.box 6 7,Yw b,Yw h;clear h i b;delta D4;go_in;go_upto_region 1 with fail;rw[<-q.o];clear q;go_wp2_with fail;refine(Mr A _ s (Bd.own o.co) Yv f).ah ?_;rintro e F ⟨y,rfl,q,b⟩;have h:=Yw (Dr.A o b);obtain⟨B,_⟩:=h.box 7 _ rfl;have r:=(b.cell (p:=⟨w.1.size,0,an⟩) (A4 W _ f)).ag f;have i:=Yw q;clear q c6 t f;go_wp2_with fail;refine(Lf v _ s (Ba.own h.di) Yv r).ah ?_;rintro e K ⟨z,rfl,t,u⟩;have q:=Yw t;have f:=(g.ag (b.ah g.size)).ag (u.ah (Zm g.size b.size));clear t B r;cases y
 .go_wp2;go_ret;exact⟨z,rfl,⟨(λe=> ct (q.1 e)),(λe=>e.elim (λe=>by have:=i.2 e;cases this) q.2)⟩,f⟩
 go_wp2;go_ret;exact⟨ay,rfl,⟨(λ_=> cr (i.1 trivial)),(λ_=>rfl)⟩,f⟩
theorem BS.holds{a:Nat}{c:Int}{b:C5}{f:Lit->Option Value}(h:BS w a V c b f):Holds w w.1.size c b f:=by
 intro s j;rcases h s j with h|⟨u,k,l,d,e,g,i⟩
 .exact cr h
 exact ct ⟨u,k,l,d,e,g,i.row⟩
theorem Dr.look{O:Dg}{b a:Int}{c:C5}{C:C7}{B:C6}(h:Dr w g d m O P L o x b a c C B)(q:(c.map (·.sum)).Nodup)(t:∀k∈c,(k.sum.size:Int)=o){k:Kd}(i:k∈c):
 ∃e j,Ad w w.1.size e k.C/\∀X,Zz w X->(Instr.lookup 119 (.map (ai m)) (Ce k.sum) ba).run prog X=.ok (CG k e j) X:=by
 have⟨n,f,D,l,y⟩:=h.map;rcases y _ (t k i)with⟨_,r⟩|⟨u,e,j,A,v,p,s⟩
 .exact absurd ⟨_,i,rfl⟩ r
 obtain rfl:=ET q A i v;refine⟨e,j,s.row,λX z=> ?_⟩;have:=(l.ak z l.lt).look keyed underlying119 (LN _) (CW u.sum);rw[p]at this;exact this
theorem Wb(y d m o q:Nat)(O P L:Dg)(E K l c:Int)(u:C5)(U:C7)(T:C6)(s:Zi)(k:Kd)(w:Zh)(D:Dr w y d m O P L E K l c u U T)(G:(u.map (·.sum)).Nodup)(I:∀k∈u,(k.sum.size:Int)=E)(R:k∈u)(S:ed k.C<=1000)(n:k.C.Pairwise (λa b=>less a b=ay))(z:eh w (Zd o 0)=ai (Yy d))(A:eh w (Zd q 0)=ai (C0 s)):
 D4 203 #[Ce k.sum,Yy o,Yy q] w λe f=>∃x,e=C1 (ec x)/\(x=ay↔s∈k.C)/\Zz w f:=by
 obtain⟨⟨f,g,h,gj⟩,F,H,W,r⟩:=D.look G I R,A4 w _ z,A4 w _ A,Du w (Yk (kB k.sum)) 160;have j:=(Av r).1;have B:Aa W w.1.size (AZ k.sum):=by rw[r];exact Aa.new w (AZ k.sum) 160
 have J:w.1.size<W.1.size:=Aa.lt (v:=.int .u8 (kB k.sum 0)) B;unfold Ce CJ CG at gj;have HS:Hid (∀X,Zz W X->eh X (Zd o 0)=ai (Yy d)/\eh X (Zd q 0)=ai (C0 s)/\eh X (Zd d 1)=ai (.map (ai m))/\(eh X (Zd (w.1.size) 0)=ai (.int .u8 (kB k.sum 0))/\eh X (Zd (w.1.size) 1)=ai (.int .u8 (kB k.sum 1))/\eh X (Zd (w.1.size) 2)=ai (.int .u8 (kB k.sum 2))/\eh X (Zd (w.1.size) 3)=ai (.int .u8 (kB k.sum 3))/\eh X (Zd (w.1.size) 4)=ai (.int .u8 (kB k.sum 4))/\eh X (Zd (w.1.size) 5)=ai (.int .u8 (kB k.sum 5))/\eh X (Zd (w.1.size) 6)=ai (.int .u8 (kB k.sum 6))/\eh X (Zd (w.1.size) 7)=ai (.int .u8 (kB k.sum 7)))/\(Instr.lookup 119 (.map (ai m)) (ca (Yk (kB k.sum))) ba).run prog X=.ok (ca #[C0 k.sum,Zg k.born,C0 k.Q,Cw f k.C g]) X):=
  λX C=>by have t:=j.ag (C.ah j.size);exact⟨(t.cell (p:=⟨o,0,an⟩) F).ag z,(t.cell (p:=⟨q,0,an⟩) H).ag A,(Aa.A D.box t 1 _ rfl).1,sk8 (C.block _ J) B,gj X t⟩
 have N:=Yw (QV g s (Ad.ah (Ad.A h j.drew) j.size) S n);have M:bg W.1.size W W.drew:=Ae.drew;have Y:∀X:Zh,(Instr.field 50 (ca #[C0 k.sum,Zg k.born,C0 k.Q,Cw f k.C g]) 2).run prog X=.ok (ca #[C0 k.Q,Cw f k.C g]) X:=λ_=>Yr;have Z:∀X:Zh,(Instr.field 48 (ca #[C0 k.Q,Cw f k.C g]) 1).run prog X=.ok (Cw f k.C g) X:=λ_=>Yr;have Q:=Yw r;clear r B gj h;unfold Ce CJ;delta D4;go_in;go_upto_region 1 with fail;rw[<-Q.o];go_region_held3 (λX=>eh X (Zd o 0)=ai (Yy d)/\eh X (Zd q 0)=ai (C0 s)/\eh X (Zd d 1)=ai (.map (ai m))/\(eh X (Zd (w.1.size) 0)=ai (.int .u8 (kB k.sum 0))/\eh X (Zd (w.1.size) 1)=ai (.int .u8 (kB k.sum 1))/\eh X (Zd (w.1.size) 2)=ai (.int .u8 (kB k.sum 2))/\eh X (Zd (w.1.size) 3)=ai (.int .u8 (kB k.sum 3))/\eh X (Zd (w.1.size) 4)=ai (.int .u8 (kB k.sum 4))/\eh X (Zd (w.1.size) 5)=ai (.int .u8 (kB k.sum 5))/\eh X (Zd (w.1.size) 6)=ai (.int .u8 (kB k.sum 6))/\eh X (Zd (w.1.size) 7)=ai (.int .u8 (kB k.sum 7)))/\(Instr.lookup 119 (.map (ai m)) (ca (Yk (kB k.sum))) ba).run prog X=.ok (ca #[C0 k.sum,Zg k.born,C0 k.Q,Cw f k.C g]) X)
  (first|with_reducible exact HS.o _ M|with_reducible exact HS.o _ r)
  (first|(go_at_call 204;refine N.Ak ?_;rintro e V ⟨i,x,rfl,h,C⟩;have B:=Yw h;clear h;have r:bg W.1.size W V:=CA C))
 all_goals
  go_wp2;go_ret;exact⟨x,rfl,B,j.ag (r.ah j.size)⟩
def Kn(ks:List Kd):Prop:=∀k∈ks,ed k.C<=1000/\k.C.Pairwise (fun a b=>less a b=ay)
theorem PF{o:Nat}(u z:Nat)(N:Zk)(G:Nat){I F f:Int}{b:C5}{O:C7}{M:C6}(s:Zi)(a:Dr w o d m (Cx N (ed b) G) P L I F l f b O M)(Z:(b.map (·.sum)).Nodup)(zA:∀k∈b,(k.sum.size:Int)=I)(K:Kn b)(hl:ed b<=600)(C:eh w (Zd u 0)=ai (Yy d))(E:eh w (Zd z 0)=ai (C0 s)):
 D4 230 #[Cx N (ed b) G,.func (.func 203) #[] #[Yy u,Yy z]] w λe c=>∃r:Int,e=C1 (Zg r)/\(0<=r↔∃k∈b,s∈k.C)/\Zz w c:=by
 obtain⟨X,r,HD⟩:=A4 w _ C,A4 w _ E,Yw a;clear a;delta D4;go_in;go_wp2;go_loopw [8] (λi wr=>∃k:Nat,k<=ed b/\i=Zg k/\Hid (∀j x,j<k->b[j]?=ai x->¬s∈x.C)/\Zz w wr) (λi _=>ed b -(intOf i).toNat)
 case atStart=>exact⟨0,Aw _,rfl,(λj x h=>Yv),Ae⟩
 obtain⟨k,hk,rfl,q,c⟩:=hrel;have i:=c.size;by_cases hlt:k<ed b
 case neg=>go_wp2;go_ret;refine⟨_,rfl,⟨(λh=>Yv),(λ⟨p,hp,h⟩=> ?_)⟩,c⟩;obtain⟨j,v,rfl⟩:=getElem_of_mem hp;exact absurd h (q j _ Yv (Zv v))
 have t:=Dr.A HD c;have n:=t.ord;obtain⟨og,oc,Y,_,zB⟩:=Cv n (λe=>by injection e with _ h2 _;omega);cases Y;have J:=Yw (Zv hlt);have g:=getElem_mem hlt;have D:(b.map (·.sum))[k]?=ai b[k].sum:=by simp[hlt]
 have a:∀j,j<8->eh wr (Zd og (k *8+j))=ai (.int .u8 (kB b[k].sum j)):=λj v=>(n.cellAt _ Yv).ag (ED D v);have B:=a 0 Yv;have Q:=a 1 Yv;have R:=a 2 Yv;have S:=a 3 Yv;have T:=a 4 Yv;have U:=a 5 Yv;have V:=a 6 Yv;have W:=a 7 Yv;rw[Nat.add_zero]at B;have H:=Wb o d m u z _ P L I F l f b O M s b[k] wr t Z zA g (K _ g).1 (K _ g).2 ((c.cell (p:=⟨u,0,an⟩) X).ag C) ((c.cell (p:=⟨z,0,an⟩) r).ag E);unfold Ce CJ at H;have A:=Yw H;clear a D n t g H;generalize b[k]=x at *
 go_wp2_with fail;refine A.Ak ?_;rintro e H ⟨t,rfl,n,D⟩;have g:=c.ag (D.ah i);have a:=Yw n;clear n B Q R S T U V W A;cases t
 .have A:Hid (∀j y,j<k+1->b[j]?=ai y->¬s∈y.C):=by
   intro j y v n;rcases B0 j k with t|t
   .exact q j y t n
   obtain rfl:j=k:=Yv;rw[J.o]at n;cases n;exact λh=>by have:=a.2 h;simp at this
  go_wp2;exact⟨⟨k+1,Yv,Yn,A,g⟩,Ys⟩
 go_wp2;go_ret;exact⟨_,rfl,⟨(λ_=>⟨x,Zs J,a.1 (by trivial)⟩),(λ_=>Yv)⟩,g⟩
theorem Ms(o q:Nat)(p:Zk)(g:Nat){n b a:Int}{c:C5}{y:C7}{x:C6}(s:Zi)(i:Dr w f d m (Cx p (ed c) g) P L t n b a c y x)(A:(c.map (·.sum)).Nodup)(C:∀k∈c,(k.sum.size:Int)=t)(E:Kn c)(D:ed c<=600)(z:eh w (Zd o 0)=ai (Yy d))(B:eh w (Zd q 0)=ai (C0 s)):
 D4 202 #[Cx p (ed c) g,.func (.func 203) #[] #[Yy o,Yy q]] w λe l=>∃j,e=C1 (ec j)/\(j=ay↔∃k∈c,s∈k.C)/\Zz w l:=by
 have u:=Yw (PF o q p g s i A C E D z B);clear i;delta D4;go_in;go_wp2_with fail;refine u.Ak ?_;rintro e F ⟨r,rfl,l,j⟩;have v:=Yw l;clear l u;by_cases h:0<=r
 .have i:bq ((0:Int)<=r)=ay:=Yt;go_wp2;go_ret;exact⟨ay,rfl,⟨(λ_=>v.1 h),(λ_=>rfl)⟩,j⟩
 have i:bq ((0:Int)<=r)=ba:=Yt;go_wp2;go_ret;exact⟨ba,rfl,⟨(λe=>by cases e),(λe=>absurd (v.2 e) Yv)⟩,j⟩
theorem Um{O:Dg}{b a:Int}{c:C5}{u:C7}{t:C6}(s:Zi)(n:Dr w f d m O P L o j b a c u t)(v:(c.map (·.sum)).Nodup)(x:∀k∈c,(k.sum.size:Int)=o)(B:Kn c)(A:ed c<=600):
 D4 160 #[Yy d,C0 s] w λe g=>∃i,e=C1 (ec i)/\(i=ay↔∃k∈c,s∈k.C)/\Zz w g:=by
 have D:∀(fn:Fn) (first cap:Array Value) (w:Zh),(Instr.makeFunc fn first cap).run prog w=.ok (.func fn first cap) w:=λ_ _ _ _=>rfl;obtain⟨C,y,rfl⟩:=AB n.ord;have⟨W,g⟩:=Ag ((w.alloc (bs #[Yy d] 90)).alloc (bs #[C0 s] 9));have l:=(AT g).1;have z:eh W (Zd (w.1.size) 0)=ai (Yy d):=Ff;have r:eh W (Zd (w.1.size+1) 0)=ai (C0 s):=Ff;have h:=n.A l;obtain⟨p,⟨E,_⟩,q⟩:=Yw (Ms w.1.size (w.1.size+1) C y s h v x B A z r),h.box 5 _ rfl,Yw g;clear g h n r;delta D4;go_in;go_upto_region 1 with fail;rw[<-q.o];clear q;go_wp2_with fail;refine p.Ak ?_;rintro e r ⟨i,rfl,g,h⟩;have q:=Yw g;have n:=l.ag (h.ah l.size);clear g p;go_wp2;go_ret;exact⟨i,rfl,q,n⟩
theorem Jb{O:Dg}{n b a:Int}{f:C5}{i:C7}{h:C6}(s:Zi)(g:Dr w c d m O P L n j b a f i h)(v:(f.map (·.sum)).Nodup)(x:∀k∈f,(k.sum.size:Int)=n)(C:Kn f)(z:ed f<=600)(B:ed i<=100)(A:ed h<=200):
 D4 115 #[Yy d,C0 s] w λe q=>∃o,e=C1 (ec o)/\(o=ay↔((∃p∈i,p.sum=s)\/∃l∈h,l.sum=s)\/∃k∈f,s∈k.C)/\Zz w q:=by
 have r:=Yw g;clear g;delta D4;go_in;go_wp2_with fail;refine(SD s r B A).ah ?_;rintro e D ⟨t,rfl,q,g⟩;have o:=Yw q;clear q;cases t
 .go_wp2_with fail;refine(Um s (Dr.A r g) v x C z).ah ?_;rintro e E ⟨y,rfl,t,u⟩;have q:=Yw t;clear t;go_wp2;go_ret;exact⟨y,rfl,⟨(λe=> ct (q.1 e)),(λe=>e.elim (λe=>by have:=o.2 e;simp at this) q.2)⟩,g.ag (u.ah g.size)⟩
 go_wp2;go_ret;exact⟨ay,rfl,⟨(λ_=> cr (o.1 (by trivial))),(λ_=>rfl)⟩,g⟩
theorem EU{O:Dg}{u b a:Int}{c:C5}{x:C7}{v:C6}(j:Dr w g d m O P L l u b a c x v)(r:∀k∈c,(k.sum.size:Int)=l)(t:As c s):
 D4 212 #[Yy d,C0 s] w λe h=>e=C1 (.tuple #[])/\Zz w h:=by
 have⟨n,f,A,q,p⟩:=j.map;have⟨B,i,h⟩:=Kl f s q p.holds r;obtain rfl:=i.2 t;obtain⟨y,z⟩:=Aa.c2 j.box 0 1;have o:=Yw (h w Ae);clear h i j q p;delta D4;go_in;go_wp2_with fail;refine o.Ak ?_;rintro e i ⟨rfl,h⟩;clear o;go_wp2;go_end0;exact⟨rfl,h⟩
end
theorem PG{A:Type}{c:A->Zj}(j:∀x,ed (c x)=n){a:Nat}{b:List A}(h:ej w a e n (Yz g (ed b) d) (ed b) (Af c b))(i:Nat)(f:i<=ed b):ej w a e n (Yz g i d) i (Af c (b.take i)):=by
 refine⟨by rw[CF j,Cl];congr 1;omega,?_⟩;rcases h.2 with⟨e,_⟩|⟨s,l,k,e,q,r,t,m,o,p⟩
 .cases e
 cases e;refine ct ⟨g,d,k,rfl,q,r,Yv,m,o,?_⟩;rw[<-LL j b i f,<-p,take_take];congr 1;exact(Nat.min_eq_left (Nat.mul_le_mul_right n f)).symm
def Acw(fk te ts sz:Nat):Prop:=
 (fk=217/\te=148/\ts=27/\sz=2)\/(fk=221/\te=112/\ts=28/\sz=3)\/(fk=225/\te=160/\ts=122/\sz=8)
theorem Aac{j h e:Nat}(k:Acw j d h e):∃(i:TypeInfo) (zv:Dg) (zs:Zj),prog.info? d=ai i/\i.size=e/\prog.underlying h=ai (.slice d)/\(∀w,(zeroValue d).run prog w=.ok zv w)/\(Builtin.zeroCells zv.cells 1).toList=zs/\ed zs=e/\∀v∈zs,v.oneCell'=ay:=by
 rcases k with⟨rfl,rfl,rfl,rfl⟩|⟨rfl,rfl,rfl,rfl⟩|⟨rfl,rfl,rfl,rfl⟩
 .obtain⟨c,b,f,a,g⟩:=info_parts Ji;exact⟨c,ca #[Zc,Zc],[Zc,Zc],b,a,underlying27,λw=>Yr,Yr,rfl,by simp[oneCell']⟩
 .obtain⟨c,b,f,a,g⟩:=info_parts IB;exact⟨c,ca #[Ze,Zc,Ze],[Ze,Zc,Ze],b,a,underlying28,λw=>Yr,Yr,rfl,by simp[oneCell']⟩
 obtain⟨c,b,f,a,g⟩:=info_parts KT;exact⟨c,ca DO,DO.toList,b,a,underlying122,λw=>Yr,Yr,rfl,by simp[DO,oneCell']⟩
theorem SE{e:Nat}{k:Dg}{a:Zj}(p:prog.underlying i=ai (.slice g))(q:∀w,(zeroValue g).run prog w=.ok k w)(m:(Builtin.zeroCells k.cells 1).toList=a)(f:ed a=e)(l:∀v∈a,v.oneCell'=ay)(r:TypeId)(w:Zh)(b o c:Nat)(h:∀j,j<e->(eh w (Zd b (o+j))).isSome=ay)(n:∀j,j<e->ei w ⟨b,o+j,an⟩=ba):
 (Builtin.clear_ #[i] r #[Cx (ai ⟨b,o,an⟩) 1 c]).run prog w=.ok (.tuple #[]) (w.setCells b o a):=by
 have d:=run_storeCells_cells (P:=prog) b o a 0 w (by rw[f];simpa using h) (by rw[f];simpa using n) l;simp only[Nat.add_zero]at d;simp[Builtin.clear_,run_underlying p,q,m,d]
theorem Nf{A:Type}{l:A->Zj}{E r:Nat}(I:Acw E r B c)(q:∀x,ed (l x)=c)(Y:∀f,∀u∈Af l f,u.oneCell'=ay)(g b i:Nat)(a:List A)(z:ej w k r c (Yz g (ed a) b) (ed a) (Af l a))(hl:ed a<=600)(hi:i<ed a):
 D4 E #[Yz g (ed a) b,Zg i,Zg ((i:Int)+1)] w λe d=>e=C1 (Yz g (ed a -1) b)/\ej d k r c (Yz g (ed a -1) b) (ed a -1) (Af l (a.eraseIdx i))/\ek w d (ai g):=by
 obtain⟨x,zv,zs,v,Q,f,U,R,S,T⟩:=Aac I;have t:ed a<=b/\b<=maxLen:=by
  rcases z.2 with⟨e,_⟩|⟨V,s,K,e,Z,H,F,G,W,X⟩
  .cases e
  cases e;exact⟨F,G⟩
 obtain⟨L,M⟩:=t;unfold maxLen at M;have m1:(ed a -1) *c+c=ed a *c:=by rw[<-Nat.succ_mul];congr 1;omega
 have m2:ed a *c<=b *c:=Nat.mul_le_mul_right c L;have hcut:=PG q z i Yv;have⟨A,hA,o⟩:∃A,(if b=i+1 then ai (⟨g,0,an⟩:Addr)else ai ⟨g,(i+1) *c,an⟩)=ai A/\∀j u,(Af l (a.drop (i+1)))[j]?=ai u->eh w.drew (A.add j)=ai u:=by
  by_cases h:b=i+1
  .refine⟨⟨g,0,an⟩,by rw[if_pos h],λj u f=> ?_⟩;rw[drop_of_length_le Yv]at f;simp[Af]at f
  refine⟨⟨g,(i+1) *c,an⟩,by rw[if_neg h],λj u f=> ?_⟩;rw[A1];rw[<-LM q a (i+1) Yv,getElem?_drop]at f;have O:=(Zw f).1;rw[CF q]at O;exact(z.cellAt _ Yv).ag f
 obtain⟨C,J,d,n⟩:=run_append_fits (P:=prog) w.drew k B B r x c f v Q g i b (Af l (a.take i)) hcut A (ed a -(i+1)) (b -(i+1)) (Af l (a.drop (i+1))) (by rw[CF q,length_drop]) o (Y _) Yv;rw[<-Cn,show i+(ed a -(i+1))=ed a -1 by omega]at d;rw[show i+(ed a -(i+1))=ed a -1 by omega]at J;have N:=(eraseIdx_eq_take_drop_succ a i).symm;rw[N]at d;have D:=Yw (Zn d n);have y:∀j,j<c->(eh C (Zd g ((ed a -1) *c+j))).isSome=ay/\ei C ⟨g,(ed a -1) *c+j,an⟩=ba:=λj p=>by
  have⟨d,n⟩:=D.o;rcases d.2 with⟨e,_⟩|⟨V,s,K,e,Z,H,F,G,W,X⟩
  .cases e
  cases e;constructor
  .simp only[cell?,H];rw[B8 Yv];rfl
  exact d.frozenAt _
 have m:=λu=>SE f U R S T u C g ((ed a -1) *c) (b -(ed a -1)) (λj p=>(y j p).1) (λj p=>(y j p).2);have p:=Yw (Zn trivial m);rcases I with⟨rfl,rfl,rfl,rfl⟩|⟨rfl,rfl,rfl,rfl⟩|⟨rfl,rfl,rfl,rfl⟩
 all_goals
  first|delta D4;go_in|delta D4;go_in|delta D4;go_in
  have j:i<=b:=Yv;have u:(0:Int)<=(i:Int)+1:=Yv;have zA:(i:Int)+1<=(ed a:Int):=Yv;go_upto_region 5 with fail
  go_region_law (first
   |(refine CK Yp (.tmp 22) (.tmp 25) _ _ Yp Yp I1 J ?_))
  all_goals
   have m:=p.2 0;have e1:ed a -(ed a -1)=1:=Yv;have e2:¬b=ed a -1:=Yv;have e3:ed a -1<=ed a:=Yv;go_wp2;go_ret;have⟨d,n⟩:=D.o;exact⟨rfl,LQ _ _ _ d (Zx),AF (FY n) (EF g _ _ _)⟩
structure Tn (V:List Nat) (w w':Zh):Prop where
 os:w'.os=w.os
 tape:w'.tape=w.tape
 output:w'.output=w.output
 size:w.1.size<=w'.1.size
 block:∀b,b<w.1.size->b∉V->w'.1[b]?=w.1[b]?
theorem Tn.of(h:Zz w a):Tn V w a:=⟨h.os,h.tape,h.output,h.size,λb c _=>h.block b c⟩
theorem Tn.grown(h:ek w a (ai g))(d:g∈V):Tn V w a:=⟨h.os,h.tape,h.output,h.size,λb c f=>h.block b c (λe=>f (A2 e▸d))⟩
theorem Tn.set(w:Zh)(g j:Nat)(v:Dg)(a:g∈V):Tn V w (el w (Zd g j) v):=Tn.grown (Ao w g j v) a
theorem Tn.trans{b c:Zh}(h:Tn V a b)(k:Tn V b c):Tn V a c:=
 ⟨k.os.ag h.os,k.tape.ag h.tape,k.output.ag h.output,Zm h.size k.size,λq d e=>(k.block q (Zr d h.size) e).ag (h.block q d e)⟩
abbrev Tn.ag:=@Tn.trans
theorem Tn.A(h:Tn V w a)(e:B<=w.1.size)(c:∀b∈V,B<=b):bg B w a:=⟨h.os,h.tape,h.output,h.size,λb d=>h.block b Yv (λd=>C8 (c b d))⟩
theorem Tn.mono{V':List Nat}(h:Tn V w a)(c:∀b∈V,b∈V'):Tn V' w a:=⟨h.os,h.tape,h.output,h.size,λb d f=>h.block b d (λe=>f (c b e))⟩
abbrev Tn.ah:=@Tn.mono
theorem AY.same{f:Lit->Option Value}(h:AY w K b n f)(i:a.1[b]?=w.1[b]?):AY a K b n f:=by obtain⟨D,⟨c,clock,d,e⟩,g⟩:=h;exact⟨D,⟨c,clock,i.ag d,e⟩,g⟩
theorem En.O{k:Zh}{a:Zk}{j:Zl}(h:En w c V a j)(f:Tn V w k):En k c V a j:=by
 rcases h with h|⟨b,d,l,e,g,o,m⟩
 .exact cr h
 exact ct ⟨b,d,l,Zr e f.size,g,(by rw[f.block b e g];exact o),λi s n=>(cell?_of_block (a:=⟨b,d+i,an⟩) (f.block b e g)).ag (m i s n)⟩
theorem Mt{P:Program}{b:Array Oper}{o:Oper}{a:Act}{K:Act->Zh->Prop}{Q:Exit->Act->Zh->Prop}{E:Prop}(e:o.guard=an)(s x:Operand)(t u:TypeId)(f:o.op=.call {callee:=.builtin .delete,args:= #[s,x],argTypes:= #[t,u]}){d:Dg}{c:Zh}(i:a.eval s=v)(k:a.eval x=d)(g:(Builtin.delete_ #[t,u] o.type #[v,d]).run P w=.ok (.tuple #[]) c)(h:K (a.put o.dst (.tuple #[])) c):
 if Region.wanted o (yielded b a.tmps)=ay then Oper.wp P o a w K Q else E:=by
 have j:Region.wanted o (yielded b a.tmps)=ay:=by simp[Region.wanted,e]
 rw[if_pos j];unfold Oper.wp execOp;simp only[f,resolve,invoke,builtin,Sem.run_bind,Sem.run_pure,Result.andThen_ok,map_toArray,map_cons,map_nil,i,k,g];exact h
def Ch(ks:List Kd)(s:Zi):List Kd:=ks.filter (fun k=> !bq (k.sum=s))
theorem QW{b:C5}(a:(b.map (·.sum)).Nodup){k:Kd}(c:b[i]?=ai k):Ch b k.sum=b.eraseIdx i:=by
 induction b generalizing i with
 |nil=>simp at c
 |cons x xs ih=>
  simp only[map_cons,nodup_cons,mem_map,not_exists,not_and]at a;cases i with
  |zero=>simp at c;subst c;unfold Ch;simp only[filter_cons,decide_true,Bool.not_true,Bool.false_eq_true,if_false,eraseIdx_zero,tail_cons];exact filter_eq_self.2 (λy d=>C9 (a.1 y d))
  |succ i=>
   have d:xs[i]?=ai k:=C9 c;have g:=Zs d;have f:¬x.sum=k.sum:=λe=>a.1 k g e.symm;have:=ih a.2 d;unfold Ch at *
   simp[f,this]
theorem Un{f:Zl}(h:FT f s i)(o:s∈f)(c:f.Pairwise (λa b=>less a b=ay)):f[i]?=ai s:=by
 have⟨j,d⟩:=A3 o;have n:=(Zw d).1;rcases B0 j i with k|k
 .have:=h.lo j s k d;rw[Cz]at this;cases this
 rcases B0 i j with g|g
 .have l:=pairwise_iff_getElem.1 c i j Yv n g;obtain⟨m,_,e⟩:=h.hi i _ (Zx) (Zv Yv),Zw d;rw[e]at l;rw[l]at m;cases m
 obtain rfl:j=i:=Yv;exact d
structure Dv (wd:Int) (ks:List Kd):Prop where
 nd:(ks.map (·.sum)).Nodup
 ff:(ks.map (·.sum)).Pairwise (fun a b=>less a b=ay)
 sz:∀k∈ks,(k.sum.size:Int)=wd
 C:Kn ks
 len:ed ks<=600
 w8:wd<=8
theorem BS.drop{i:Zh}{d:Int}{g:C5}{f:Lit->Option Value}(h:BS w b V d g f)(q:Tn V w i)(y:(s.size:Int)=d)(x:d<=8):BS i b V d (Ch g s) (gm f (keyL s)):=by
 intro t k;by_cases hts:t=s
 .subst hts;exact cr ⟨by simp[gm],λ⟨u,c,a⟩=>by simp[Ch,a]at c⟩
 have j:keyL t≠keyL s:=λe=>hts (key_inj e Yv Yv);have n:gm f (keyL s) (keyL t)=f (keyL t):=by simp[gm,j]
 rw[n];rcases h t k with⟨l,m⟩|⟨u,r,v,c,a,o,p⟩
 .exact cr ⟨l,λ⟨u,c,a⟩=>m ⟨u,(A8.1 c).1,a⟩⟩
 exact ct ⟨u,r,v,A8.2 ⟨c,by simp[a,hts]⟩,a,o,p.O q⟩
theorem Dr.apart{B:Zh}{O:Dg}{c:Int}{D:C5}{F:C7}{E:C6}(h:Dr w k d m O P L G t j c D F E){R:Nat}(y:Tn [R] w B)(Y:k<=R)(M:R∉vB d m O P L)(x:∀p l,w.1[R]?≠ai (bs p 9 l)):Dr B k d m O P L G t j c D F E:=by
 have⟨n,f,J,C,K⟩:=h.map;have o:∀b,b<w.1.size->b∈vB d m O P L->B.1[b]?=w.1[b]?:=λb q z=>y.block b q (λe=>M (by simp at e;exact e▸z));refine⟨Aa.same h.box (o d h.box.lt Ja),⟨n,f,J,AY.same C (o m C.lt Ja),?_⟩,Ar h.ord (λg l=>o g (Ab h.ord l).2 (by simp[vB,l])),Ar h.co (λg l=>o g (Ab h.co l).2 (by simp[vB,l])),Ar h.di (λg l=>o g (Ab h.di l).2 (by simp[vB,l])),h.bd,h.bm,h.ap⟩;intro s H;rcases K s H with I|⟨u,V,W,S,T,U,A⟩
 .exact cr I
 refine ct ⟨u,V,W,S,T,U,?_⟩;rcases A with A|⟨b,v,N,q,z,l,Q⟩
 .exact cr A
 have X:b≠R:=by
  rcases l with l|⟨_,p,l⟩
  .omega
  exact λe=>x p _ (e▸l)
 have r:=y.block b q Yt;exact ct ⟨b,v,N,Zr q y.size,z,(by rw[r];exact l),λi s x=>(cell?_of_block (a:=⟨b,v+i,an⟩) r).ag (Q i s x)⟩
def SF(B:Nat)(wd:Int)(f:Lit->Option Value):Prop:=∀s:Zi,(s.size:Int)=wd->∀u ra rc,f (keyL s)=ai (CG u ra rc)->∀p,ra=ai p->ed u.C≠0->p.block<B
def DB(w:Zh)(base B d m:Nat)(O P L:Value)(wd births:Int)(ks:List Kd):Prop:=(∀g∈vB d m O P L,g<B)/\∃n f,n<=1000000+births.toNat/\AY w 160 m n f/\BS w base (vB d m O P L) wd ks f/\SF B wd f
theorem DB.O{F:Zh}{j:Nat}{O:Dg}{c:Int}{A:C5}{U:List Nat}(h:DB w j B d m O P L G c A)(p:Tn U w F)(v:∀g∈U,B<=g):DB F j B d m O P L G c A:=by
 obtain⟨z,n,f,J,r,K,t⟩:=h;refine⟨z,n,f,J,AY.same r (p.block m r.lt (λe=>by have:=v m e;have:=z m Ja;omega)),λs l=> ?_,t⟩;rcases K s l with I|⟨u,D,E,Q,R,C,q⟩
 .exact cr I
 refine ct ⟨u,D,E,Q,R,C,?_⟩;rcases q with q|⟨b,k,x,y,H,N,M⟩
 .exact cr q
 by_cases hr:ed u.C=0
 .exact cr (A9 hr)
 have S:b<B:=t s l u D E C ⟨b,k,an⟩ x hr;have o:=p.block b y (λe=>C8 (v b e));exact ct ⟨b,k,x,Zr y p.size,H,(by rw[o];exact N),λi s l=>(cell?_of_block (a:=⟨b,k+i,an⟩) o).ag (M i s l)⟩
def YV(w w':Zh)(base d m:Nat)(O O' P L:Value)(wd births:Int)(ks:List Kd)(s:Zi):Prop:=∀B,B<=w.1.size->DB w base B d m O P L wd births ks->DB w' base B d m O' P L wd births (Ch ks s)
theorem SF.gm{a:Int}{f:Lit->Option Value}(h:SF B a f)(k:Lit):SF B a (gm f k):=by
 intro s b u c d e;refine h s b u c d ?_;unfold Proofs.YtfmeclmjdpbacaaGreatDoor.gm at e;split at e
 .cases e
 exact e
theorem PH{r:Nat}{O:Dg}{K J:Int}{o:C5}{T:C7}{S:C6}(u:Dr w r d m O P L K J t j o T S)(q:Dv K o)(hp:ed T<=100)(hl:ed S<=200)(zA:As o s)(U:¬(((∃p∈T,p.sum=s)\/∃l∈S,l.sum=s)\/∃k∈o,s∈k.C)):
 D4 183 #[Yy d,C0 s] w λe z=>e=C1 (.tuple #[])/\∃y,Dr z r d m y P L K J t j (Ch o s) T S/\ef y=ef O/\Tn (vB d m O P L) w z/\YV w z r d m O y P L K j o s:=by
 obtain⟨k0,Q,l⟩:=zA;have zA:As o s:=⟨k0,Q,l⟩;have zH:=l▸q.sz k0 Q;have hlen:=length_pos_of_mem Q;obtain⟨g,D,rfl,zP,zS⟩:=Cv u.ord (λe=>by have:=AB u.ord;obtain⟨a,c,e'⟩:=this;rw[e']at e;injection e with _ h2 _;omega);have HD:=Yw u;clear u;delta D4;go_in;go_wp2_with fail;refine(EU HD q.sz zA).ah ?_;rintro e w1 ⟨rfl,G⟩;have y:=Yw (Dr.A HD G);go_wp2_with fail;refine(Jb s y q.nd q.sz q.C q.len hp hl).ah ?_;rintro e w2 ⟨ok,rfl,u,I⟩;obtain rfl:ok=ba:=by
  cases ok with
  |false=>rfl
  |true=>exact absurd (u.1 rfl) U
 have z:=Yw (Dr.A y I);clear u y;go_wp2_with fail;refine(Nc s w2).ah ?_;rintro e C ⟨rfl,N⟩;have⟨E,y⟩:=Du C (Yk (kB s)) 160;have zB:=(Av y).1;have i:Aa E C.1.size (AZ s):=by rw[y];exact Aa.new C (AZ s) 160
 obtain⟨B4,u,A⟩:=((G.ag (I.ah G.size)).ag (N.ah (Zm G.size I.size))).ag (zB.ah (Zm (Zm G.size I.size) N.size)),Yw (Dr.A (Dr.A z N) zB),Yw y;clear y z;go_upto_region 4 with fail;rw[<-A.o];clear A;have⟨n,f,hn,Y,hH⟩:=u.map;have⟨w5,R,zJ,h⟩:=(Y.ak (Below.refl E.1.size E).drew Y.lt).del keyed underlying119 (CW s) 0;have H:∀A F,AY E 160 m A F->AY w5 160 m A (gm F (keyL s)):=λA F y=>by have⟨zW,M,W,_⟩:=(y.ak (Below.refl E.1.size E).drew y.lt).del keyed underlying119 (CW s) 0;rw[R]at M;cases M;exact W
 obtain⟨zI,zO,y⟩:=Yw Y,u.box.lt,u.ap;have zC:d≠m:=by intro e;unfold vB at y;simp[e]at y
 have Z:d≠g/\m≠g:=by unfold vB at y;simp[ownBlock]at y;omega
 obtain⟨zU,zV,z⟩:=(HD.map.choose_spec.choose_spec.2.1).lt,Zm (Zm G.size I.size) N.size,FY h;have k5:=Aa.az (v:=.int .u8 (kB s 0)) i z Yv;have b:=Aa.az u.box z (λe=>zC e.symm);have P4:eh E.drew (Zd d 1)=ai (.map (ai m))/\_:=⟨(u.box 1 _ rfl).1,Hz (w:=E.drew) i⟩;have P5:eh w5 (Zd d 1)=ai (.map (ai m))/\_:=⟨(b 1 _ rfl).1,Hz k5⟩;unfold Ce CJ at R;go_region_held3 (λX=>eh X (Zd d 1)=ai (.map (ai m))/\(eh X (Zd (C.1.size) 0)=ai (.int .u8 (kB s 0))/\eh X (Zd (C.1.size) 1)=ai (.int .u8 (kB s 1))/\eh X (Zd (C.1.size) 2)=ai (.int .u8 (kB s 2))/\eh X (Zd (C.1.size) 3)=ai (.int .u8 (kB s 3))/\eh X (Zd (C.1.size) 4)=ai (.int .u8 (kB s 4))/\eh X (Zd (C.1.size) 5)=ai (.int .u8 (kB s 5))/\eh X (Zd (C.1.size) 6)=ai (.int .u8 (kB s 6))/\eh X (Zd (C.1.size) 7)=ai (.int .u8 (kB s 7))))
  (first|with_reducible exact P4|with_reducible exact P5)
  (first|(refine Mt Yp (.tmp 21) (.tmp 22) 119 160 Yp Yp Yp R ?_))
 have V:=ownsRow.kept u.ord z (ct (λe=>Z.2 (A2 e).symm));obtain⟨X,q0,q1,q2,q3,q4,q5,q6,q7⟩:=Uk m g D P L K J t j o s b V q.len (C8 q.w8) (λx p=>C8 (q.sz x p)) q.ff,Hz k5;have p:=Yw X;unfold Ce CJ at p;have x:=Yw (Zn b V);have H5:=Yw (Zn H (Zn z hH));clear X P4 P5 R zJ h z b V i k5 Y H;go_wp2_with fail;refine p.Ak ?_;rintro e w6 ⟨i,rfl,h,Y⟩;have H:=Un h (mem_map.2 ⟨k0,Q,l⟩) q.ff;have zT:=q.len;have X:i<ed o:=by have:=(Zw H).1;simpa using this
 have x6:=Aa.A x.1 Y;obtain⟨y5,f5⟩:=x6 5 _ rfl;have b:ej w6 r 160 8 (Yz g (ed (o.map (·.sum))) D) (ed (o.map (·.sum))) (AR (o.map (·.sum))):=by rw[A7];exact Ai x.2 Y
 have z:=Nf (ct (ct ⟨rfl,rfl,rfl,rfl⟩)) Uc Hd g D i (o.map (·.sum)) b (by rw[A7];exact q.len) (by rw[A7];exact X);rw[A7]at z;have V:=Yw z;have R:=Yw (Zn H (Zn x6 Y));clear h H x6 z b p q0 q1 q2 q3 q4 q5 q6 q7;go_wp2_with fail;refine V.Ak ?_;rintro e w7 ⟨rfl,H,z⟩;have b:=Aa.az R.2.1 z (λe=>Z.1 e.symm);obtain⟨y7,f7⟩:=b 5 _ rfl;have p:=Yw (Zn b (Zn H z));clear b H z y5 f5 V;go_wp2;go_end0;have V:Tn [d,m,g] E (el w7 (Zd d 5) (Yz g (ed o -1) D)):=
  (((Tn.grown H5.2.1 Yu).ag (Tn.of R.2.2)).ag (Tn.grown p.2.2 Yu)).ag (Tn.set w7 d 5 _ Yu)
 have H:∀b∈[d,m,g],b∈vB d m (Yz g (ed o) D) P L:=by intro b z;simp at z;unfold vB;rcases z with rfl|rfl|rfl<;>simp[ownBlock]
 have zG:∀v:Value,(v=P\/v=L)->∀b,ef v=ai b->b∉[d,m,g]:=by
  intro v hv b z zE;unfold vB at y;rcases hv with rfl|rfl
  .simp only[nodup_cons,Bh,A5,A6,z]at y;simp[ownBlock]at y zE
   grind
  simp only[nodup_cons,Bh,A5,A6,z]at y;simp[ownBlock]at y zE
  grind
 have zM:∃k,o[i]?=ai k/\k.sum=s:=by
  have:=R.1;rw[getElem?_map]at this;cases hk:o[i]? with
  |none=>rw[hk]at this;cases this
  |some k=>rw[hk]at this;exact⟨k,rfl,C9 this⟩
 obtain⟨ki,zN,k⟩:=zM;have zK:=k▸QW q.nd zN;have zF:∀A F,AY E 160 m A F->AY (el w7 (Zd d 5) (Yz g (ed o -1) D)) 160 m A (gm F (keyL s)):=λA F h=>by have h5:=H5.1 A F h;refine AY.same (AY.same (h5.ak R.2.2 h5.lt) (p.2.2.block m (Zr h5.lt R.2.2.size) (λe=>Z.2 (A2 e)))) ?_;exact Below.heap_setCell _ _ _ _ (λe=>zC e.symm)
 refine⟨rfl,Yz g (ed o -1) D,⟨Aa.set p.1 5 _,⟨n,gm f (keyL s),hn,zF n f zI,?_⟩,?_,?_,?_,u.bd,u.bm,y⟩,rfl,(Tn.of B4).ag (V.ah H),λB _ ⟨hv,A,F,h0,h,h2,h3⟩=>⟨hv,A,_,h0,zF A F (h.ak B4 h.lt),BS.drop (h2.A B4) (V.ah H) zH q.w8,h3.gm _⟩⟩
 .exact BS.drop H5.2.2 (V.ah H) zH q.w8
 .rw[zK];have h:ed (o.eraseIdx i)=ed o -1:=by rw[length_eraseIdx,if_pos X]
  rw[h];have h2:(o.eraseIdx i).map (·.sum)=(o.map (·.sum)).eraseIdx i:=by simp[eraseIdx_eq_take_drop_succ]
  rw[h2];exact BU p.2.1 (λb z=>by simp[ownBlock]at z;omega) 5 _
 .exact Ar u.co (λb z=>V.block b (Ab u.co z).2 (zG P (cr rfl) b z))
 exact Ar u.di (λb z=>V.block b (Ab u.di z).2 (zG L (ct rfl) b z))
structure KTo (w:Zh) (lo g:Nat) (rs:Zj) (ks:List Kd):Prop where
 len:ed rs=ed ks
 aw:ej w lo 50 4 (.slice (ai ⟨g,0,an⟩) (ed ks) (ed ks)) (ed ks) (Af kC (ks.zip rs))
 C:∀(i:Nat) (k:Kd) (r:Value),ks[i]?=ai k->rs[i]?=ai r->ej w (g+1) 9 1 r (ed k.C) (k.C.map Value.string)
 sm:∀r∈rs,∃q n c,r=.slice (ai ⟨q,0,an⟩) n c
 inc:(rs.filterMap Value.ownBlock).Pairwise (·<·)
