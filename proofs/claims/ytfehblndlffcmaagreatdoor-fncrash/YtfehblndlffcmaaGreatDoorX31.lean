import Derived.Test.YtfehblndlffcmaaGreatDoorX19
import Derived.Test.YtfehblndlffcmaaGreatDoorX37
import Derived.Test.YtfehblndlffcmaaGreatDoorX38
set_option maxRecDepth 100000
set_option maxHeartbeats 16000000
open Option renaming some->an,none->ba
open Bool renaming true->bg,false->bq
open Go.RowKit renaming Below->bs
open Decidable renaming decide->bx
open Go.Obj renaming cells->ca
open Go.Value renaming slice->cr,agg->ct
open Or renaming inl->dp,inr->eb
open Go.Ground renaming data->ed
open List renaming length->eh,toArray->ei
open Go.World renaming cell?->ek,grownBy->ep,setCell->ev
namespace Go.Proofs.YtfehblndlffcmaaGreatDoor
open ChangeShapes WideShapes ChangeAt RowKit _root_.Go.Proofs.Tryz List World Value
variable{v:Vd}{d l o m i p k K:Int}{a:Zk}{b n q B c g:Nat}{D E P L j Q M s t y:Value}{u:UR}{w X W Y wr Z:Zh}{f r x:Zl}{V:List Nat}{vs:Zj}
def zR:Zj:=[Ze,Zb,Zb,Ze,Ze,Ze]
structure Rw (w:Zh) (b:Nat) (a:Zk) (n c:Nat) (p:Int) (q:Nat) (sv:Value) (S:Zj) (ph:Int) (Q M:Value) (top at_ ro:Int) (qs ms:Zl) (X:Zh):Prop where
 box:Aa X q [Zg ph,Q,M,Zg top,Zg at_,Zg ro]
 oq:Ak X (w.1.size+3) Q qs
 om:Ak X (w.1.size+3) M ms
 aq:∀g,Al Q=an g->g≠q
 am:∀g,Al M=an g->g≠q/\Al Q≠an g
 z:Aa X (w.1.size+2) zR
 s:Aa X w.1.size (sv::S)
 rd:AB X b a n c p
 gr:ep w X (an b)
 hq:w.1.size+3<=q
theorem Rw.fr{S:Zj}{s:Int}{m:Zl}(h:Rw w b a n c p q j S o Q M l k s r m X)(t:b<w.1.size)(f:Tn V X Z)(d:∀g∈V,w.1.size+3<=g):Aa Z (w.1.size+2) zR/\Aa Z w.1.size (j::S)/\AB Z b a n c p/\ep w Z (an b):=
 ⟨Aa.same h.z (f.block _ h.z.lt (λe=>Dl (d _ e))),Aa.same h.s (f.block _ h.s.lt (λe=>Dl (d _ e))),h.rd.S f (λg i=>Dl (d g i)) (λe=>Dl (d _ e)),Cs h.gr f (λg i=> dp (Dl (d g i)))⟩
theorem Rw.go{S:Zj}{j s:Int}{l:Zl}(h:Rw w b a n c p q t S o Q M j i s r l X)(d:ep X Y (an b))(v:AB Y b a n c m)(x:b<w.1.size):Rw w b a n c m q t S o Q M j i s r l Y:=by have u:=h.hq;have k:=Tn.grown (V:=[b]) d Yu;exact⟨h.box.au d Yv,h.oq.S k (λg e f=>by have:=(h.oq.bh e).1;simp at f;omega),h.om.S k (λg e f=>by have:=(h.om.bh e).1;simp at f;omega),h.aq,h.am,h.z.au d Yv,h.s.au d Yv,v,Ai h.gr d,u⟩
theorem Rw.A{l:D4}{S:Zj}{e:Int}{j g:Zl}(h:Rw w b a n c p q l S i Q M e d k j g X)(f:Zz X Y)(m:b<w.1.size):Rw w b a n c p q l S i Q M e d k j g Y:=
 h.go (Af _ f) (h.rd.A f) m
structure Je (w:Zh) (b:Nat) (a:Zk) (n c:Nat) (p K:Int) (q:Nat) (X:Zh):Prop where
 ex:∃p' sv S ph Q M top at_ ro qs ms,Rw w b a n c p' q sv S ph Q M top at_ ro qs ms X/\p<=p'/\p'<=p+K/\eh qs<=60000/\eh ms<=60000
theorem Rw.e{S:Zj}{g r:Int}{e:Zl}(h:Rw w b a n c d q s S o Q M i g r f e X)(j:p<=d)(k:d<=p+K)(m:eh f<=60000)(l:eh e<=60000):Je w b a n c p K q X:=⟨_,_,_,_,_,_,_,_,_,_,_,h,j,k,m,l⟩
theorem Rw.R{m:D4}{S:Zj}{D:Int}{E:Int}{k i:Zl}(h:Rw w b a n c p q m S D Q M l d E k i X)(H:b<w.1.size)(j:Nat)(I:j=0\/j=3\/j=4\/j=5)(x:Int){G:Int}(y:G<=p)(z:p<=G+K)(B:eh k<=60000)(A:eh i<=60000):Je w b a n c G K q (ev X (Zd q j) (Zg x)):=by
 have f:=h.hq;have F:=AX X q j (Zg x);have⟨o,r,s,t⟩:=h.fr H F Yt;have u:=h.oq.S F (λg e C=>h.aq g e gA);have v:=h.om.S F (λg e C=>(h.am g e).1 gA);have C:=h.box.set j (Zg x);rcases I with rfl|rfl|rfl|rfl
 .exact⟨p,m,S,x,Q,M,l,d,E,k,i,⟨C,u,v,h.aq,h.am,o,r,s,t,f⟩,y,z,B,A⟩
 .exact⟨p,m,S,D,Q,M,x,d,E,k,i,⟨C,u,v,h.aq,h.am,o,r,s,t,f⟩,y,z,B,A⟩
 .exact⟨p,m,S,D,Q,M,l,x,E,k,i,⟨C,u,v,h.aq,h.am,o,r,s,t,f⟩,y,z,B,A⟩
 exact⟨p,m,S,D,Q,M,l,d,x,k,i,⟨C,u,v,h.aq,h.am,o,r,s,t,f⟩,y,z,B,A⟩
theorem Rw.ib{S:Zj}(h:Rw w b a n c p q y S m Q M l k o f x X)(J:b<w.1.size)(t:Zi)(K:eh f<=60000):
 ∃i j Y,(Builtin.append_ #[23,23] 23 #[Q,Yz X.1.size 1 1]).run prog (X.alloc (ca #[C4 t] 9))=.ok (C3 i (eh f+1) j) Y/\Aa Y q [Zg m,Q,M,Zg l,Zg k,Zg o]/\Rw w b a n c p q y S m (C3 i (eh f+1) j) M l k o (f++[t]) x (ev Y (Zd q 1) (C3 i (eh f+1) j)):=by
 have A:=h.hq;have z:=h.box.lt;have⟨i,j,Y,F,G,s,H,u⟩:=MG X (w.1.size+3) q 1 Q f t h.oq h.aq z Yv Yv;have I:∀g∈q::(Al Q).toList,w.1.size+3<=g:=λg d=>by
  rcases Cf.1 d with e|e
  .omega
  exact(h.oq.bh (By.1 e)).1
 obtain⟨v,B,C,D,E⟩:=Aa.same h.box G,h.fr J s I;refine⟨i,j,Y,F,v,v.set 1 _,H,h.om.S s (λg e r=> ?_),λg e=> ?_,λg e=>⟨(h.am g e).1,λd=> ?_⟩,B,C,D,E,A⟩
 .rcases Cf.1 r with d|d
  .exact(h.am g e).1 d
  exact(h.am g e).2 (By.1 d)
 .rcases u g e with d|d
  .exact h.aq g d
  omega
 have:=(h.om.bh e).2;rcases u g d with r|r
 .exact(h.am g e).2 r
 omega
theorem Rw.ik{S:Zj}(h:Rw w b a n c p q y S m Q M l k o x f X)(J:b<w.1.size)(t:Zi)(K:eh f<=60000):
 ∃i j Y,(Builtin.append_ #[23,23] 23 #[M,Yz X.1.size 1 1]).run prog (X.alloc (ca #[C4 t] 9))=.ok (C3 i (eh f+1) j) Y/\Aa Y q [Zg m,Q,M,Zg l,Zg k,Zg o]/\Rw w b a n c p q y S m Q (C3 i (eh f+1) j) l k o x (f++[t]) (ev Y (Zd q 2) (C3 i (eh f+1) j)):=by
 have A:=h.hq;have z:=h.box.lt;have⟨i,j,Y,F,G,s,H,u⟩:=MG X (w.1.size+3) q 2 M f t h.om (λg e=>(h.am g e).1) z Yv Yv;have I:∀g∈q::(Al M).toList,w.1.size+3<=g:=λg d=>by
  rcases Cf.1 d with e|e
  .omega
  exact(h.om.bh (By.1 e)).1
 obtain⟨v,B,C,D,E⟩:=Aa.same h.box G,h.fr J s I;refine⟨i,j,Y,F,v,v.set 2 _,h.oq.S s (λg e r=> ?_),H,h.aq,λg e=>⟨?_,λd=> ?_⟩,B,C,D,E,A⟩
 .rcases Cf.1 r with d|d
  .exact h.aq g e d
  exact(h.am g (By.1 d)).2 e
 .rcases u g e with d|d
  .exact(h.am g d).1
  omega
 have:=(h.oq.bh d).2;rcases u g e with r|r
 .exact(h.am g r).2 d
 omega
def Qv(q m:Nat)(w:Zh):Nat:=match ek w (Zd q 1)with
 |some (cr _ n _)=>m -n
 |_=>0
structure RDc (Y:Zh) (cs:Zj):Prop where
 ex:∃(ph top at_ ro:Int) (x y:Zk) (xc yc:Nat) (qs ms:Zl),cs=[Zg ph,cr x (eh qs) xc,cr y (eh ms) yc,Zg top,Zg at_,Zg ro]/\Ab Y Y.1.size x qs/\Ab Y Y.1.size y ms/\(eh qs<=60000/\eh ms<=60000)/\eh ms<=yc
structure RDn (w:Zh) (b:Nat) (a:Zk) (n c:Nat) (p K:Int) (e:Ending) (w':Zh):Prop where
 ex:∃cs,e=.returned (ct (ei cs))/\∀V Y,(∀g∈V,g<w.1.size)->Tn V w' Y->RDc Y cs
 U:GF w w' b a n c p K
theorem Rw.fin{j:Int}{S:Zj}{r:Int}{t:Int}{s o:Zl}(h:Rw w b a n c j q E S r Q M i d t s o X)(H:b<w.1.size)(u:p<=j)(v:j<=p+K)(B:eh s<=60000)(A:eh o<=60000)(m:Tn [w.1.size+2] X Y):RDn w b a n c p K (.returned (ct #[Zg r,Q,M,Zg i,Zg d,Zg t])) Y:=by
 refine⟨⟨_,rfl,λV Z z hT=> ?_⟩,⟨j,h.rd.S m Yt Yt,u,v⟩,Cs h.gr m Yu⟩;have l:∀{U:D4} {ss:Zl},Ak X (w.1.size+3) U ss->Ak Z (w.1.size+3) U ss:=λk=>
  (k.S m (λg e f=>by have:=(k.bh e).1;simp at f;omega)).S hT (λg e f=>by have:=(k.bh e).1;have:=z g f;omega)
 obtain⟨⟨x,F,z,C⟩,⟨y,G,k,D⟩,f⟩:=(l h.oq).row,(l h.om).row,l h.om;rw[k]at f;exact⟨r,i,d,t,x,y,F,G,s,o,by rw[z,k],C,D,⟨B,A⟩,f.cap.1⟩
theorem TC(sw zB D f:Int)(ka pa la:Zk)(kn pn ln kc pc lc:Nat)(R G P ro:Int){qa ma:Zk}(qc mc:Nat){H B:Zl}(h:AB w b a n c p)(hp:0<=p)(xS:p<=750000)(hk:0<kn->∃g o:Nat,ka=an ⟨g,o,ba⟩/\∀X,ep w X (an b)->∃s,ek X (Zd g o)=an (C4 s))(xM:kn<=1000000)(d:Ab w w.1.size qa H)(hm:Ab w w.1.size ma B)(I:qa=ba->eh H=0/\qc=0)(zS:ma=ba->eh B=0/\mc=0)(xT:eh H<=30000)(xQ:eh B<=30000):
 D8 42 #[Yy b,ct (Yg sw zB D f ka kn kc pa pn pc la ln lc),ct (Xy R qa (eh H) qc ma (eh B) mc G P ro)] w (RDn w b a n c p 10):=by
 obtain⟨F,W,J⟩:=h.lt,Ag (((w.alloc (ca (Yg sw zB D f ka kn kc pa pn pc la ln lc) 30)).alloc (ca (Xy R qa (eh H) qc ma (eh B) mc G P ro) 32)).alloc (ca Xt 32));obtain⟨C,i,V,N,e⟩:=BI (l:=(Yh sw zB D f ka kn kc pa pn pc la ln lc)) (k:=(Xu R qa (eh H) qc ma (eh B) mc G P ro)) (m:=zR) J;obtain⟨s0,K,L,M,s4,Q⟩:=Aa.c6 N 0 1 2 3 4 5;have O:=Yw (GH R G P ro qc mc (d.X C) (hm.X C) I zS Yv Yv);have E:Hid (Aa W w.1.size (Yh sw zB D f ka kn kc pa pn pc la ln lc)/\Aa W (w.1.size+1) (Xu R qa (eh H) qc ma (eh B) mc G P ro)/\Aa W (w.1.size+2) zR/\AB W b a n c p/\ep w W (an b)/\W.1.size=w.1.size+3):=⟨V,N,e,h.A C,Af _ C,i⟩;have HK:=Yw hk;have T:=Yw J;clear J C i V N e d hm I zS h hk;delta D8;go_in;go_upto_region 1 with fail;rw[<-T.o];clear T;go_wp2_with fail;refine O.Aj ?_;rintro e o ⟨x,cx,y,cy,rfl,i,j,d,I⟩;have⟨X0,J⟩:=D6 o (Xy R (an ⟨x,0,ba⟩) (eh H) cx (an ⟨y,0,ba⟩) (eh B) cy G P ro) 32;obtain⟨N,_,r⟩:=Ax (l:=(Xu R (an ⟨x,0,ba⟩) (eh H) cx (an ⟨y,0,ba⟩) (eh B) cy G P ro)) J;have zP:=E.2.2.2.2.2;obtain⟨t,u,A⟩:=I.size,Ac i (g:=x) rfl,Ac j (g:=y) rfl;have zH:bs W.1.size W X0:=I.ag (N.ai I.size);have C:Hid (Rw w b a n c p o.1.size (Zg sw) [Zg zB,Zg D,Zg f,C3 ka kn kc,C3 pa pn pc,C3 la ln lc] R (C6 x H cx) (C6 y B cy) G P ro H B X0):=
  ⟨r,((Ak.own i).A N).ai Yv,((Ak.own j).A N).ai Yv,λg e=>by have:x=g:=A8 e;omega,λg e=>by have:y=g:=A8 e;exact⟨Yv,λz=>d (by have:x=g:=A8 z;omega)⟩,Aa.A (v:=Ze) E.2.2.1 zH,Aa.A E.1 zH,E.2.2.2.1.A zH,Ai E.2.2.2.2.1 (Af _ zH),Yv⟩
 have V:Hid (ek X0 (Zd (w.1.size+1) 0)=an (Zg R)):=((Aa.A E.2.1 zH) 0 _ rfl).1;have T:=Yw J;clear J N r zH I i j d E O s0 K L M s4 Q u A t zP;go_upto_region 2 with fail;rw[<-T.o];clear T;generalize o.1.size=q at *
 have d:q<X0.1.size:=C.box.lt;go_cut [26] (λv wx=>∃(t:Bool) (N:Int),v=.bool t/\(t=bg->0<eh B)/\Hid (Rw w b a n c N q (Zg sw) [Zg zB,Zg D,Zg f,C3 ka kn kc,C3 pa pn pc,C3 la ln lc] R (C6 x H cx) (C6 y B cy) G P ro H B wx/\p<=N/\N<=p+1))
 case first=>
  obtain⟨J,_⟩:=C.box 2 _ rfl;have v0:=V.o;by_cases hph:R=2
  .have e1:(R==2)=bg:=(by simp[hph]);clear hph;by_cases yD:0<eh B
   .have e2:bx ((0:Int)<(eh B:Int))=bg:=Yt;have HP:=Yw (AE 2 C.rd hp Yv Yv Yv);go_wp2_with fail;refine HP.Aj ?_;rintro e X1 ⟨r,rfl,r0,r1,I,E⟩;have yH:=Yw (C.go E I F);clear I E J v0;go_wp2;go_meet;exact⟨_,_,rfl,λ_=>yD,yH,Yv,Yv⟩
   have e2:bx ((0:Int)<(eh B:Int))=bq:=decide_eq_false Yv;go_wp2;go_meet;exact⟨_,_,rfl,(λh=>by cases h),C,Yv,Yv⟩
  have e1:(R==2)=bq:=by simp[hph]
  clear hph;go_wp2;go_meet;exact⟨_,_,rfl,(λh=>by cases h),C,Yv,Yv⟩
 case rest=>
 clear C V d;revert wc;rintro X1 ⟨t,p1,rfl,L,K⟩;have T:=Yw K.1;have xR:=K.2;clear K;have d:q<X1.1.size:=T.box.lt;have yS:=T.hq;cases t with
 |true=>
  obtain⟨yD,J,_⟩:=L rfl,T.box 2 _ rfl;have HP:=Yw (PM (eh B) T.rd Yv Yv Yv);go_wp2_with fail;refine HP.Aj ?_;rintro e E ⟨k,rfl,hk,zG,zC⟩;have C:=Yw (T.go zC zG F);have xL:k<eh B:=Yv;clear zG zC J HP T d hk;have d:q<E.1.size:=C.box.lt;have⟨i0,hi,zP,yF,yG⟩:=info_parts Ck;have⟨xJ,yC,xF,zS,J⟩:(w.1.size+3<=y/\y≠q)/\y<E.1.size/\eh B<=cy/\cy<=maxLen/\∀i s,B[i]?=an s->ek E (Zd y i)=an (C4 s):=by
   have hy:=(C.am y rfl).1;rcases C.om with⟨e,_⟩|⟨g',vA,xB,e,V,o,h3,h4,_,h6⟩
   .cases e
   injection e with e1 e2 e3;injection e1 with e4;injection e4 with e5 e6 _;subst e5 e6 e3;exact⟨⟨V,hy⟩,o,Yv,h4,λi s I=>by have:=h6 i s I;rwa[Ay]at this⟩
  have bA:bs E.1.size E (E.alloc (ca #[] 9)):=Zy;have oA:(E.alloc (ca #[] 9)).drew.ownsRow E.1.size 9 1 (Yz E.1.size 0 0) 0 (([]:Zl).map string):=ownsRow_lit (base:=E.1.size) (e:=9) (size:=1) E #[] 0 (Zx) Yo rfl;have rA:∀A,(an (⟨y,0,ba⟩:Addr))=an A->∀j s,(B.take k)[j]?=an s->ek (E.alloc (ca #[] 9)).drew (A.add j)=an (C4 s):=λA e j s I=>by
   cases e;rw[A7,Ay];rw[getElem?_take]at I;split at I
   .exact(bA.drew.cell (p:=⟨y,j,ba⟩) yC).ag (J j s I)
   cases I
  have rB:∀w6:Zh,ep (E.alloc (ca #[] 9)).drew w6 (an E.1.size)->∀A,(if cy=k+1 then an (⟨y,0,ba⟩:Addr)else an ⟨y,k+1,ba⟩)=an A->∀j s,(B.drop (k+1))[j]?=an s->ek w6 (A.add j)=an (C4 s):=λw6 u A e j s I=>by
   split at e
   .rw[drop_of_length_le Yv]at I;simp at I
   cases e;rw[A7];rw[getElem?_drop]at I;exact(cell?_of_block (a:=⟨y,k+1+j,ba⟩) (u.block y Yt (λe=>by injection e with e;omega))).ag ((bA.drew.cell (p:=⟨y,k+1+j,ba⟩) yC).ag (J _ s I))
  have M:Hid (∀X,Zz E X->Aa X q (Xu R (an ⟨x,0,ba⟩) (eh H) cx (an ⟨y,0,ba⟩) (eh B) cy G P ro)):=λX hX=>Aa.A C.box hX;have Z:Hid (∀(zE:Zh) (g2 I m:Nat),m=eh (B.take k++B.drop (k+1))->zE.ownsRow E.1.size 9 1 (Yz g2 m I) m ((B.take k++B.drop (k+1)).map string)->Zz E zE->Rw w b a n c (p1+1) q (Zg sw) [Zg zB,Zg D,Zg f,C3 ka kn kc,C3 pa pn pc,C3 la ln lc] R (C6 x H cx) (Yz g2 m I) G P ro H (B.take k++B.drop (k+1)) (ev zE (Zd q 2) (Yz g2 m I))):=λzE g2 I m hm ho O=>by
   subst hm;have zM:=C.A O F;have L:=AX zE q 2 (C6 g2 (B.take k++B.drop (k+1)) I);obtain⟨⟨f1,f2,f3,f4⟩,zC,xX⟩:=zM.fr F L Yt,Ac ho (g:=g2) rfl,(C.oq.bh (g:=x) rfl).2;exact⟨zM.box.set 2 _,zM.oq.S L (λg e I=>zM.aq g e (D2 I)),((Ak.own ho).ai Yv).S L (λg e I=>by have:g2=g:=A8 e;simp at I;omega),zM.aq,λg e=>by have:g2=g:=A8 e;exact⟨Yv,λz=>by have:x=g:=A8 z;omega⟩,f1,f2,f3,f4,yS⟩
  have xV:((k:Int)+1).toNat=k+1:=Yv;have xE:(k:Int)+1<=(eh B:Int):=Yv;have zU:eh (B.take k)=k:=N2;have zT:eh (B.drop (k+1))=eh B -(k+1):=length_drop;have xN:IntKind.i64.wrap ((k:Int)+1)=(k:Int)+1:=Cl Yv Yv;have xG:k<=cy:=Yv;have xH:k+1<=cy:=Yv;have xD:(0:Int)<=(k:Int)+1:=Yv;have I:∀X,Zz E X->ek X (Zd q 2)=an (C6 y B cy):=λX hX=>((M X hX) 2 _ rfl).1;obtain⟨d0,d1,HQ⟩:=I E.drew Ae.drew,I (E.alloc (ca #[] 9)).drew bA.drew,Yw I;clear I;go_upto_region 4 with fail
  go_region_law (first
   |(refine Az (E.alloc (ca #[] 9)).drew rfl (.tmp 32) (.tmp 36) 23 rfl E.1.size 9 i0 Zc 16 underlying23 hi zP yF yG rfl E.1.size 0 0 [] rfl oA (an ⟨y,0,ba⟩) k cy (B.take k) rfl zU (λe=>by cases e) rA Yo Yv Yu ?_;intro k6 zV w6 g u Q U;simp only[Ay,nil_append]at g;have r6:=rB w6 u;have z:bs E.1.size E w6:=bA.drew.grown u Yu (λk hk=>by cases hk;omega);have z6:E.1.size<=w6.1.size:=z.size;have d6:=HQ w6 z)
   |(refine Az w6 rfl (.tmp 37) (.tmp 42) 23 rfl E.1.size 9 i0 Zc 16 underlying23 hi zP yF yG rfl k6 k zV (B.take k) rfl g (if cy=k+1 then an ⟨y,0,ba⟩else an ⟨y,k+1,ba⟩) (eh B -(k+1)) (cy -(k+1)) (B.drop (k+1)) rfl zT (λe=>by split at e<;>cases e) r6 Yo Yv Yv ?_;intro k9 zO zE yE yB S Y;have I:bs E.1.size E zE:=z.grown yB z.size (λk hk=>by cases hk;exact(g.lt k6 rfl).1);obtain⟨d10,f10⟩:=(M zE I) 2 _ rfl;have yY:q<zE.1.size:=Zr d I.size))
  all_goals
   have O:=Yw (Z zE k9 zO _ (by rw[Am,zU,zT]) yE I);clear g u Q U z r6 z6 yE yB S Y oA rA rB Z C J M HQ d0 d1 d6;go_upto_region 5 with fail
   all_goals
    revert O;generalize ev zE (Zd q 2) _=Z;intro O;clear d10 f10 yY I;obtain⟨⟨⟨u0,_⟩,⟨u1,_⟩,⟨u2,_⟩,⟨u3,_⟩,⟨u4,_⟩,u5,_⟩,⟨y0,f0⟩,⟨y1,f1⟩,⟨y2,f2⟩,⟨y3,f3⟩,⟨y4,f4⟩,y5,f5⟩:=r6 O.box,r6 (show Aa Z (w.1.size+1+1) Xs from O.z);have yN:¬(q=w.1.size+1+1):=Yv;have zX:¬(w.1.size+1+1=q):=Yv;go_wp2
    all_goals
     refine C1 (ct (Xy R (an ⟨x,0,ba⟩) (eh H) cx (an ⟨k9,0,ba⟩) (k+(eh B -(k+1))) zO G P ro)) (by simp[results,results42,go_sem,y0,y1,y2,y3,y4,y5]) (O.fin F Yv Yv Yv (by rw[Am,zU,zT];omega) ?_)
     repeat refine Tn.ag ?_ (Tn.set _ _ _ _ Yu)
     exact Tn.of Ae
 |false=>
  clear L;have HP:=Yw (AE 9 T.rd Yv Yv Yv Yv);go_wp2_with fail;refine HP.Aj ?_;rintro e E ⟨r,rfl,r0,r1,zG,zC⟩;have C:=Yw (T.go zC zG F);clear zG zC HP T d;have d:q<E.1.size:=C.box.lt;generalize hp2':p1+1=p2 at *
  go_upto_block 0 with fail;go_cut [] (λwx=>Hid (Je w b a n c p 10 q wx))
  case rest=>
   clear C d;revert wc;intro Z K;have⟨N,sv,S,yX,Q,M,zZ,yJ,xA,yZ,yV,O,V,o,h3,h4⟩:=K.ex;obtain⟨⟨xa,xc,hQ,_⟩,ya,yc,hM,_⟩:=O.oq.row,O.om.row;subst hQ hM;replace O:=Yw O;clear K;obtain⟨⟨⟨u0,_⟩,⟨u1,_⟩,⟨u2,_⟩,⟨u3,_⟩,⟨u4,_⟩,u5,_⟩,⟨y0,f0⟩,⟨y1,f1⟩,⟨y2,f2⟩,⟨y3,f3⟩,⟨y4,f4⟩,y5,f5⟩:=r6 O.box,r6 (show Aa Z (w.1.size+1+1) Xs from O.z);have yN:¬(q=w.1.size+1+1):=Yv;have zX:¬(w.1.size+1+1=q):=Yv;go_wp2;refine C1 (ct (Xy yX xa (eh yZ) xc ya (eh yV) yc zZ yJ xA)) (by simp[results,results42,go_sem,y0,y1,y2,y3,y4,y5]) (O.fin F V o h3 h4 ?_)
   repeat refine Tn.ag ?_ (Tn.set _ _ _ _ Yu)
   exact Tn.of Ae
  rcases(show r=0\/r=1\/r=2\/r=3\/r=4\/r=5\/r=6\/r=7\/r=8 by omega)with rfl|rfl|rfl|rfl|rfl|rfl|rfl|rfl|rfl
  .as_aux_lemma=>
    have HP:=Yw (AE 5 C.rd Yv Yv Yv Yv);go_wp2_with fail;refine HP.Aj ?_;rintro e X3 ⟨z,rfl,z0,z1,zN,zJ⟩;have zF:=Yw (C.go zJ zN F);obtain⟨y0,f0⟩:=zF.box 0 _ rfl;have yQ:q<X3.1.size:=zF.box.lt;have O:Hid (∀x,Je w b a n c p 10 q (ev X3 (Zd q 0) (Zg x))):=λx=>zF.R F 0 Yu x Yv Yv Yv Yv;clear zN zJ zF C;go_wp2;go_meet;exact O _
  .go_upto_region 16 with fail
   refine CI [86,87,88,89,90,91,92,93,94,95,96,97,98,99] 14 rfl _ rfl Yr Yr Yr Yr Yr Yq Yr [] Yr (λL X=>∃N,Rw w b a n c N q (Zg sw) [Zg zB,Zg D,Zg f,C3 ka kn kc,C3 pa pn pc,C3 la ln lc] R (C6 x H cx) (C6 y B cy) G P ro H B X/\p2<=N/\N<=p2+1/\(L 10=bq->N=p2)) (λi X v=>match i with
    |0=>v=Yx q 3
    |1=>v=Zg G
    |2=>v=Yx q 3
    |3=>v=Zg G
    |4=>∃z:Int,v=Zg z
    |5=>v=Yx q 3
    |6=>v=Zg G
    |7=>∃z:Int,v=Zg z
    |8=>∃J l,v=Yz J 5 5/\J≠b/\(eh l=4/\∀u∈(Zg 0::l:Zj),∃z,u=Zg z)/\Aa X J (Zg 0::l)
    |9=>v=Yy b
    |10=>∃j:Nat,v=Zg j/\j<5
    |11=>∃J j',v=Yx J j'/\J≠b/\J<X.1.size/\∃y:Int,ek X (Zd J j')=an (Zg y)
    |12=>∃z:Int,v=Zg z
    |13=>v=Yx q 4
    |_=>True) (λ_ X Y=>ep X Y (an b)) ?_ ⟨p2,C.A Ae.drew F,Yv,Yv,λ_=>rfl⟩ ?_ ?_
   .intro j i X Y v yM yO yL hE hT;rcases i with _|_|_|_|_|_|_|_|_|_|_|_|_|_|_<;>first|exact hT|exact trivial|skip
    .obtain⟨J,l,e,V,o,h3⟩:=hT;exact⟨J,l,e,V,o,h3.au hE (Ne.symm V)⟩
    obtain⟨J,j',e,V,o,y,h4⟩:=hT;exact⟨J,j',e,V,Zr o hE.size,y,(cell?_of_block (a:=⟨J,j',ba⟩) (hE.block J o (λe=>V N3))).ag h4⟩
   .intro i o' L x' X hi ho hL hD hJ hd K I;obtain⟨N,g,g1,g2,g3⟩:=hJ;have c3:=(g.box 3 _ rfl).1;have hr:ep X X (an b):=AO _ _;have zA:i≠10->∀Y,Zz X Y->∃N,Rw w b a n c N q (Zg sw) [Zg zB,Zg D,Zg f,C3 ka kn kc,C3 pa pn pc,C3 la ln lc] R (C6 x H cx) (C6 y B cy) G P ro H B Y/\p2<=N/\N<=p2+1/\(Bj L i 10=bq->N=p2):=λh6 Y hY=>⟨N,g.A hY F,g1,g2,λU=>g3 (by unfold Bj at U;rw[if_neg (Ne.symm h6)]at U;exact U)⟩;rcases(show i=0\/i=1\/i=2\/i=3\/i=4\/i=5\/i=6\/i=7\/i=8\/i=9\/i=10\/i=11\/i=12\/i=13 by omega)with rfl|rfl|rfl|rfl|rfl|rfl|rfl|rfl|rfl|rfl|rfl|rfl|rfl|rfl<;>cases ho<;>simp only[AY,Act.put,Zq,Zp,Zo]at I |-
    all_goals try (go_simp;exact I.out _ X rfl hr (zA Yv X Ae))
    all_goals try (simp[Gf,Region.binds]at hd;simp only[hd]at I |-;go_simp;exact I.out _ X rfl hr (zA Yv X Ae))
    .rw[show x' 3=Zg G from hd ⟨3,ed⟩ Yu Yp]at I |-;go_simp;exact I.out _ X ⟨_,rfl⟩ hr (zA Yv X Ae)
    .rw[show x' 6=Zg G from hd ⟨6,ed⟩ Yu Yp]at I |-;go_simp;exact I.out _ X ⟨_,rfl⟩ hr (zA Yv X Ae)
    .obtain⟨z4,e4⟩:=hd ⟨4,ed⟩ Yu Yp;have⟨z7,e7⟩:=hd ⟨7,ed⟩ Yu Yp;rw[show x' 1=Zg G from hd ⟨1,ed⟩ Yu Yp,e4,e7]at I |-;have hA:bs X.1.size X (X.alloc (ca #[Ze,Zg 1,Zg G,Zg z4,Zg z7] 3)):=Zy;have zH:=g.gr.size;go_simp;exact I.out _ _ ⟨X.1.size,[Zg 1,Zg G,Zg z4,Zg z7],rfl,Yv,⟨rfl,Yu⟩,Aa.new X [Ze,Zg 1,Zg G,Zg z4,Zg z7] _⟩ (Af _ hA) (zA Yv _ hA)
    .rw[show x' 9=Yy b from hd ⟨9,ed⟩ Yu Yp]at I |-;have yP:=g3 hL;go_simp;refine(AE 5 g.rd Yv Yv Yv Yv).ai ?_;rintro e X' ⟨z,rfl,y0,y1,zG,zC⟩;exact I.out _ X' ⟨z.toNat,by congr 1;omega,Yv⟩ zC ⟨N+1,g.go zC zG F,Yv,Yv,λh=>by unfold Bj at h;simp at h⟩
    .obtain⟨J,l,e1,V,o,h3⟩:=hd ⟨8,ed⟩ Yu Yp;have⟨j,e2,h4⟩:=hd ⟨10,ed⟩ Yu Yp;rw[e1,e2]at I |-;obtain⟨z,h5⟩:=Eg h3 o.2 (j:=j) (by have:=o.1;simp;omega);have h6:=h3.lt;have h7:(j:Int)<5:=Yv;clear h3;go_simp;exact I.out _ X ⟨J,j,rfl,V,h6,z,h5⟩ hr (zA Yv X Ae)
    obtain⟨J,j',e1,V,o,z,h3⟩:=hd ⟨11,ed⟩ Yu Yp;rw[e1]at I |-;go_simp;exact I.out _ X ⟨z,rfl⟩ hr (zA Yv X Ae)
   intro L x' X hL hJ hT K I;simp only[AY,Act.put,Zq,Zp,Zo];obtain⟨z,e1⟩:=hT 12 Yq (λj=>Yu);have d:=hT 13 Yq (λj=>Yu);obtain⟨N,g,g1,g2,g3⟩:=hJ;have O:Hid (Je w b a n c p 10 q (ev X (Zd q 4) (Zg z))):=g.R F 4 Yu z Yv Yv Yv Yv;obtain⟨y4,f4⟩:=g.box 4 _ rfl;have zY:=g.box.lt;rw[e1,show x' 13=Yx q 4 from d];clear hT g C;go_simp;refine I.out _ _ ?_;clear I K;go_wp2;go_meet;exact O
  .go_upto_region 18 with fail
   refine CI [102,103,104,105,106,107,108,109,110,111,112] 11 rfl _ rfl Yr Yr Yr Yr Yr Yq Yr [] Yr (λL X=>∃N,Rw w b a n c N q (Zg sw) [Zg zB,Zg D,Zg f,C3 ka kn kc,C3 pa pn pc,C3 la ln lc] R (C6 x H cx) (C6 y B cy) G P ro H B X/\p2<=N/\N<=p2+1/\(L 7=bq->N=p2)) (λi X v=>match i with
    |0=>v=Yx w.1.size 3
    |1=>v=Zg f
    |2=>v=Yx w.1.size 3
    |3=>v=Zg f
    |4=>∃z:Int,v=Zg z
    |5=>∃J l,v=Yz J 4 4/\J≠b/\(eh l=3/\∀u∈(Zg (-1)::l:Zj),∃z,u=Zg z)/\Aa X J (Zg (-1)::l)
    |6=>v=Yy b
    |7=>∃j:Nat,v=Zg j/\j<4
    |8=>∃J j',v=Yx J j'/\J≠b/\J<X.1.size/\∃y:Int,ek X (Zd J j')=an (Zg y)
    |9=>∃z:Int,v=Zg z
    |10=>v=Yx q 3
    |_=>True) (λ_ X Y=>ep X Y (an b)) ?_ ⟨p2,C.A Ae.drew F,Yv,Yv,λ_=>rfl⟩ ?_ ?_
   .intro j i X Y v yM yO yL hE hT;rcases i with _|_|_|_|_|_|_|_|_|_|_|_<;>first|exact hT|exact trivial|skip
    .obtain⟨J,l,e,V,o,h3⟩:=hT;exact⟨J,l,e,V,o,h3.au hE (Ne.symm V)⟩
    obtain⟨J,j',e,V,o,y,h4⟩:=hT;exact⟨J,j',e,V,Zr o hE.size,y,(cell?_of_block (a:=⟨J,j',ba⟩) (hE.block J o (λe=>V N3))).ag h4⟩
   .intro i o' L x' X hi ho hL hD hJ hd K I;obtain⟨N,g,g1,g2,g3⟩:=hJ;have c3:=(g.s 3 _ rfl).1;have hr:ep X X (an b):=AO _ _;have zA:i≠7->∀Y,Zz X Y->∃N,Rw w b a n c N q (Zg sw) [Zg zB,Zg D,Zg f,C3 ka kn kc,C3 pa pn pc,C3 la ln lc] R (C6 x H cx) (C6 y B cy) G P ro H B Y/\p2<=N/\N<=p2+1/\(Bj L i 7=bq->N=p2):=λh6 Y hY=>⟨N,g.A hY F,g1,g2,λU=>g3 (by unfold Bj at U;rw[if_neg (Ne.symm h6)]at U;exact U)⟩;rcases(show i=0\/i=1\/i=2\/i=3\/i=4\/i=5\/i=6\/i=7\/i=8\/i=9\/i=10 by omega)with rfl|rfl|rfl|rfl|rfl|rfl|rfl|rfl|rfl|rfl|rfl<;>cases ho<;>simp only[AY,Act.put,Zq,Zp,Zo]at I |-
    all_goals try (go_simp;exact I.out _ X rfl hr (zA Yv X Ae))
    all_goals try (simp[Gf,Region.binds]at hd;simp only[hd]at I |-;go_simp;exact I.out _ X rfl hr (zA Yv X Ae))
    .rw[show x' 3=Zg f from hd ⟨3,ed⟩ Yu Yp]at I |-;go_simp;exact I.out _ X ⟨_,rfl⟩ hr (zA Yv X Ae)
    .obtain⟨z4,e4⟩:=hd ⟨4,ed⟩ Yu Yp;rw[show x' 1=Zg f from hd ⟨1,ed⟩ Yu Yp,e4]at I |-;have hA:bs X.1.size X (X.alloc (ca #[Zg (-1),Ze,Zg f,Zg z4] 3)):=Zy;have zH:=g.gr.size;go_simp;exact I.out _ _ ⟨X.1.size,[Ze,Zg f,Zg z4],rfl,Yv,⟨rfl,Yu⟩,Aa.new X [Zg (-1),Ze,Zg f,Zg z4] _⟩ (Af _ hA) (zA Yv _ hA)
    .rw[show x' 6=Yy b from hd ⟨6,ed⟩ Yu Yp]at I |-;have yP:=g3 hL;go_simp;refine(AE 4 g.rd Yv Yv Yv Yv).ai ?_;rintro e X' ⟨z,rfl,y0,y1,zG,zC⟩;exact I.out _ X' ⟨z.toNat,by congr 1;omega,Yv⟩ zC ⟨N+1,g.go zC zG F,Yv,Yv,λh=>by unfold Bj at h;simp at h⟩
    .obtain⟨J,l,e1,V,o,h3⟩:=hd ⟨5,ed⟩ Yu Yp;have⟨j,e2,h4⟩:=hd ⟨7,ed⟩ Yu Yp;rw[e1,e2]at I |-;obtain⟨z,h5⟩:=Eg h3 o.2 (j:=j) (by have:=o.1;simp;omega);have h6:=h3.lt;have h7:(j:Int)<4:=Yv;clear h3;go_simp;exact I.out _ X ⟨J,j,rfl,V,h6,z,h5⟩ hr (zA Yv X Ae)
    obtain⟨J,j',e1,V,o,z,h3⟩:=hd ⟨8,ed⟩ Yu Yp;rw[e1]at I |-;go_simp;exact I.out _ X ⟨z,rfl⟩ hr (zA Yv X Ae)
   intro L x' X hL hJ hT K I;simp only[AY,Act.put,Zq,Zp,Zo];obtain⟨z,e1⟩:=hT 9 Yq (λj=>Yu);have d:=hT 10 Yq (λj=>Yu);obtain⟨N,g,g1,g2,g3⟩:=hJ;have O:Hid (Je w b a n c p 10 q (ev X (Zd q 3) (Zg z))):=g.R F 3 Yu z Yv Yv Yv Yv;obtain⟨y4,f4⟩:=g.box 3 _ rfl;have zY:=g.box.lt;rw[e1,show x' 10=Yx q 3 from d];clear hT g C;go_simp;refine I.out _ _ ?_;clear I K;go_wp2;go_meet;exact O
  .as_aux_lemma=>
    have HS:=Yw (KR ⟨#[113]⟩ sw E.drew Yq);have zK:Hid (∀X t,Zz E X->∃K uc Y,(Builtin.append_ #[23,23] 23 #[C6 x H cx,Yz X.1.size 1 1]).run prog (X.alloc (ca #[C4 t] 9))=.ok (C3 K (eh H+1) uc) Y/\Aa Y q (Xu R (an ⟨x,0,ba⟩) (eh H) cx (an ⟨y,0,ba⟩) (eh B) cy G P ro)/\Je w b a n c p 10 q (ev Y (Zd q 1) (C3 K (eh H+1) uc))):=λX t hX=>by have⟨K,uc,Y,V,o,h3⟩:=(C.A hX F).ib F t Yv;exact⟨K,uc,Y,V,o,h3.e Yv Yv Yl Yl⟩
    obtain⟨s0,u1,_⟩:=(C.s 0 _ rfl).1,C.box 1 _ rfl;go_upto_region 20 with fail
    go_region_law (first
     |(go_simp;go_at_call 64;refine HS.Aj ?_;rintro e wf ⟨t,rfl,_,zI⟩;have bf:bs E.1.size E wf:=BO zI;have zf:=bf.size;have⟨va,vc,Y,hr,u,hL⟩:=zK wf t bf;have hx:=Aa.A C.box bf;have m1:=(hx 1 _ rfl).1;obtain⟨y1,f1⟩:=u 1 _ rfl;have a1:ek (wf.alloc (ca #[C4 t] 9)) (Zd q 1)=an (C6 x H cx):=(Aa.A hx (Zy) 1 _ rfl).1;have O:=Yw hL;clear hx u hL zI;go_wp2_with fail)
     |(refine Bu Yp (.tmp 116) (.tmp 120) 23 23 Yp Yp Yp hr ?_))
    all_goals
     go_wp2;go_meet;exact O
  .as_aux_lemma=>
    have HS:=Yw (KR ⟨#[109]⟩ sw E.drew Yq);have zK:Hid (∀X t,Zz E X->∃K uc Y,(Builtin.append_ #[23,23] 23 #[C6 y B cy,Yz X.1.size 1 1]).run prog (X.alloc (ca #[C4 t] 9))=.ok (C3 K (eh B+1) uc) Y/\Aa Y q (Xu R (an ⟨x,0,ba⟩) (eh H) cx (an ⟨y,0,ba⟩) (eh B) cy G P ro)/\Je w b a n c p 10 q (ev Y (Zd q 2) (C3 K (eh B+1) uc))):=λX t hX=>by have⟨K,uc,Y,V,o,h3⟩:=(C.A hX F).ik F t Yv;exact⟨K,uc,Y,V,o,h3.e Yv Yv Yl Yl⟩
    obtain⟨s0,u1,_⟩:=(C.s 0 _ rfl).1,C.box 2 _ rfl;go_upto_region 22 with fail
    go_region_law (first
     |(go_simp;go_at_call 64;refine HS.Aj ?_;rintro e wf ⟨t,rfl,_,zI⟩;have bf:bs E.1.size E wf:=BO zI;have zf:=bf.size;have⟨va,vc,Y,hr,u,hL⟩:=zK wf t bf;have hx:=Aa.A C.box bf;have m1:=(hx 2 _ rfl).1;obtain⟨y1,f1⟩:=u 2 _ rfl;have a1:ek (wf.alloc (ca #[C4 t] 9)) (Zd q 2)=an (C6 y B cy):=(Aa.A hx (Zy) 2 _ rfl).1;have O:=Yw hL;clear hx u hL zI;go_wp2_with fail)
     |(refine Bu Yp (.tmp 126) (.tmp 130) 23 23 Yp Yp Yp hr ?_))
    all_goals
     go_wp2;go_meet;exact O
  .as_aux_lemma=>
    obtain⟨⟨K,uc,Y,yT,u,g⟩,u1,_⟩:=C.ib F ⟨#[116,111,111,108,111,110,103,102,111,114,97,110,121]⟩ Yv,C.box 1 _ rfl;obtain⟨y1,f1⟩:=u 1 _ rfl;have yR:q<Y.1.size:=u.lt;have O:Hid (Je w b a n c p 10 q (ev Y (Zd q 1) (C3 K (eh H+1) uc))):=g.e Yv Yv Yt Yv;clear g u C;go_wp2_with (at_builtin;refine wpList_append_run rfl _ _ 23 23 rfl rfl rfl yT ?_);go_meet;exact O
  .as_aux_lemma=>
   have s4:=(C.s 4 _ rfl).1;have s0:=(C.s 0 _ rfl).1;have g:Hid (Je w b a n c p 10 q E):=C.e Yv Yv Yv Yv;by_cases hk0:0<kn
   case neg=>have e1:bx ((0:Int)<(kn:Int))=bq:=decide_eq_false Yv;go_wp2;go_meet;exact g
   have e1:bx ((0:Int)<(kn:Int))=bg:=decide_eq_true Yv;have⟨A1,A2,hA,I⟩:=HK hk0;subst hA;have yI:=Yw I;clear I;go_wp2_with fail;refine(EX sw E).ai ?_;rintro e X3 ⟨rfl,rfl⟩;by_cases hw:1<=sw/\sw<=8
   case neg=>rw[decide_eq_false hw];clear hw;go_wp2;go_meet;exact g
   rw[decide_eq_true hw];clear hw;have HP:=Yw (AE 2 C.rd Yv Yv Yv Yv);clear s0 s4;go_wp2_with fail;refine HP.Aj ?_;rintro e X4 ⟨r,rfl,r0,r1,U,I⟩;obtain⟨r,rfl⟩:∃j:Nat,r=j:=⟨r.toNat,Yv⟩;have yA:=Yw (C.go I U F);clear U I C HP g;have I:IntKind.i64.wrap (23200+(r:Int))=23200+(r:Int):=Cl Yv Yv;have⟨m,hm⟩:∃m:Nat,(23200:Int)+(r:Int)=m:=⟨23200+r,Yv⟩;have xO:m<=23201:=Yv;go_wp2;try rw[hm]
   clear hm I;go_loopw [158] (λ_ wr=>∃(U:D4) (I:Zl),eh I<=60000/\Hid (Rw w b a n c (p2+1) q (Zg sw) [Zg zB,Zg D,Zg f,C3 (an ⟨A1,A2,ba⟩) kn kc,C3 pa pn pc,C3 la ln lc] R U (C6 y B cy) G P ro I B wr)) (λ_ wr=>Qv q m wr)
   case atStart=>exact⟨_,H,Yv,yA⟩
   clear yA;obtain⟨U,I,xZ,T⟩:=hrel;have⟨K,uc,hU,_⟩:=T.oq.row;subst hU;obtain⟨u1,_⟩:=T.box 1 _ rfl;have xP:Qv q m wr=m -eh I:=(by unfold Qv;rw[u1]);by_cases hlt:eh I<m
   .have e2:bx ((eh I:Int)<(m:Int))=bg:=decide_eq_true Yv;have⟨t,hT⟩:=yI wr T.gr;have s4:=(T.s 4 _ rfl).1;have⟨va,vc,Y,hr,u,hL⟩:=(T.A Ae.drew F).ib F t Yv;replace hr:(Builtin.append_ #[23,23] 23 #[C2 K I uc,Yz wr.1.size 1 1]).run prog (wr.alloc (ca #[C4 t] 9)).drew=.ok (C3 va (eh I+1) vc) Y:=hr;have a1:ek (wr.alloc (ca #[C4 t] 9)).drew (Zd q 1)=an (C2 K I uc):=(Aa.A T.box (Zy).drew 1 _ rfl).1;obtain⟨⟨y1,f1⟩,yR,O⟩:=u 1 _ rfl,u.lt,Yw hL;clear u hL e2 HK;go_upto_region 29 with fail;go_region_law (refine Bu Yp (.tmp 160) (.tmp 166) 23 23 Yp Yp Yp hr ?_)
    all_goals
     go_wp2;refine⟨⟨_,I++[t],Yt,O⟩,?_⟩;have xC:Qv q m (ev Y (Zd q 1) (C3 va (eh I+1) vc))=m -(eh I+1):=(by unfold Qv;rw[(O.box 1 _ rfl).1]);exact Nat.lt_of_le_of_lt (Nat.le_of_eq xC) Yv
   have e2:bx ((eh I:Int)<(m:Int))=bq:=decide_eq_false Yv;have g:Hid (Je w b a n c p 10 q wr):=T.e Yv Yv Yv Yv;go_wp2;go_meet;exact g
  .as_aux_lemma=>
   go_wp2;go_loopw [9] (λi wr=>∃(j:Nat) (U:D4) (I:Zl),i=Zg j/\Hid (eh I=eh B+j/\(j=0\/eh I<=600))/\Hid (Rw w b a n c p2 q (Zg sw) [Zg zB,Zg D,Zg f,C3 ka kn kc,C3 pa pn pc,C3 la ln lc] R (C6 x H cx) U G P ro H I wr)) (λi _=>600 -(intOf i).toNat)
   case atStart=>exact⟨0,_,B,rfl,⟨rfl,dp rfl⟩,C⟩
   clear C;obtain⟨j,U,I,rfl,HZ,T⟩:=hrel;have xY:eh I<=30600:=Dl HZ.o;have xK:j<=600:=Dl HZ.o;have⟨K,uc,hU,_⟩:=T.om.row;subst hU;obtain⟨u2,_⟩:=T.box 2 _ rfl;have s0:=(T.s 0 _ rfl).1;have g:Hid (Je w b a n c p 10 q wr):=T.e Yv Yv Yv Yv;by_cases hlt:eh I<600
   case neg=>have e1:bx ((eh I:Int)<600)=bq:=decide_eq_false Yv;go_wp2;go_meet;exact g
   have e1:bx ((eh I:Int)<600)=bg:=decide_eq_true Yv;have HS:Hid (∀(s:Zi) (X:Zh),s.size<=100000->D8 64 #[C4 s,Zg sw] X λe w'=>∃t,e=C5 (C4 t)/\t.size<=maxLen/\Zz X w'):=λs X h=>KR s sw X h;have HD:=Yw (Nb 4 j wr.drew Yv Yv Yv);have zK:Hid (∀X t,Zz wr X->∃va vc Y,(Builtin.append_ #[23,23] 23 #[C2 K I uc,Yz X.1.size 1 1]).run prog (X.alloc (ca #[C4 t] 9))=.ok (C3 va (eh I+1) vc) Y/\Aa Y q (Xu R (an ⟨x,0,ba⟩) (eh H) cx K (eh I) uc G P ro)/\Rw w b a n c p2 q (Zg sw) [Zg zB,Zg D,Zg f,C3 ka kn kc,C3 pa pn pc,C3 la ln lc] R (C6 x H cx) (C3 va (eh I+1) vc) G P ro H (I++[t]) (ev Y (Zd q 2) (C3 va (eh I+1) vc))):=λX t hX=>(T.A hX F).ik F t Yv;go_wp2_with fail;refine(EX sw wr).ai ?_;rintro e w3 ⟨rfl,rfl⟩;by_cases hw:1<=sw/\sw<=8
   .rw[decide_eq_true hw];clear hw;have h5:(⟨#[102,117,108,108,32]⟩:Zi).size=5:=rfl;have hm:(100000:Nat)<=maxLen:=Yo;go_upto_region 12 with fail
    go_region_law (first
     |(go_simp;go_at_call 63;refine HD.Aj ?_;rintro e w4 ⟨s4,rfl,xU,s⟩;have b4:bs w3.1.size w3 w4:=BO s;have h4:=T.A b4 F;have m2:=(h4.box 2 _ rfl).1;have m0:=(h4.s 0 _ rfl).1;have yK:(⟨#[102,117,108,108,32]⟩++s4:Zi).size<=100000:=Yt;have xI:¬(9223372036854775807<5+s4.size):=Yv;clear h4 s;go_wp2_with fail)
     |(go_simp;go_at_call 64;refine Calls.mono (HS _ w4 yK) ?_;rintro e wf ⟨t,rfl,_,zI⟩;have bf:bs w3.1.size w3 wf:=b4.ag (zI.ai b4.size);have zf:=bf.size;have⟨va,vc,Y,hr,u,hL⟩:=zK wf t bf;have hx:=Aa.A T.box bf;have m1:=(hx 2 _ rfl).1;obtain⟨y1,f1⟩:=u 2 _ rfl;have a1:ek (wf.alloc (ca #[C4 t] 9)) (Zd q 2)=an (C2 K I uc):=(Aa.A hx (Zy) 2 _ rfl).1;have O:=Yw hL;clear hx u hL zI;go_wp2_with fail)
     |(refine Bu Yp (.tmp 68) (.tmp 75) 23 23 Yp Yp Yp hr ?_))
    all_goals
     go_wp2;exact⟨⟨j+1,_,I++[t],Yn,⟨by have:=HZ.1;simp;omega,eb Yt⟩,O⟩,by have:=HZ.1;simp[intOf];omega⟩
   rw[decide_eq_false hw];clear hw;go_wp2;go_meet;exact g
  as_aux_lemma=>
   obtain⟨A,hA⟩:=D6 E #[Zg (-1),Zg 1000000000,Zg 999999999,Zg 1000000001] 3;obtain⟨bA,_,u⟩:=Ax (l:=[Zg (-1),Zg 1000000000,Zg 999999999,Zg 1000000001]) hA;have s:=Yw (C.A bA F);have HP:=Yw (AE 4 s.rd Yv Yv Yv Yv);subst hA;go_wp2_with fail;refine HP.Aj ?_;rintro e X3 ⟨x',rfl,x0,x1,zN,zJ⟩;obtain⟨j,rfl⟩:∃j:Nat,x'=j:=⟨x'.toNat,Yv⟩;have zF:=Yw (s.go zJ zN F);obtain⟨⟨v,hv⟩,y0,f0⟩:=Eg (u.au zJ Yv) Yu (j:=j) Yt,zF.box 5 _ rfl;have yQ:q<X3.1.size:=zF.box.lt;have yU:=zJ.size;have O:Hid (∀x,Je w b a n c p 10 q (ev X3 (Zd q 5) (Zg x))):=λx=>zF.R F 5 Yu x Yv Yv Yv Yv;simp only[Ao]at yU;clear zN zJ zF C s HP u bA;go_wp2;go_meet;exact O _
