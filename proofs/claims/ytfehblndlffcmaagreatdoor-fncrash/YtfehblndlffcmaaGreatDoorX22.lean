import Derived.Test.YtfehblndlffcmaaGreatDoorX32
import Derived.Test.YtfehblndlffcmaaGreatDoorX31
import Derived.Test.YtfehblndlffcmaaGreatDoorX29
import Derived.Test.YtfehblndlffcmaaGreatDoorX21
set_option maxRecDepth 100000
set_option maxHeartbeats 16000000
open Option renaming some->an,none->ba
open Bool renaming true->bg,false->bq
open Go.RowKit renaming Below->bs
open Decidable renaming decide->bx
open Go.Obj renaming cells->ca
open Go.Value renaming slice->cr,agg->ct,bool->ef
open Or renaming inl->dp,inr->eb
open Go.Ground renaming data->ed
open List renaming length->eh,toArray->ei
open Go.World renaming cell?->ek,grownBy->ep,setCell->ev
namespace Go.Proofs.YtfehblndlffcmaaGreatDoor
open ChangeShapes WideShapes ChangeAt RowKit _root_.Go.Proofs.Tryz List World Value
variable{b n c q g:Nat}{a:Zk}{p:Int}{w X Y:Zh}{u v:Vd}{r:Rs}
theorem XV(d:∀(b:Nat) (a:Zk) (n c:Nat) (p:Int) (w:Zh),AB w b a n c p->0<=p->p<=600000->D8 39 #[Yy b] w (YS w b a n c p 50000))(h:AB w b a n c p)(hp:0<=p)(xB:p<=500000):
 D8 15 #[Yy b] w (YS w b a n c p 60000):=by
 obtain⟨N,W,B⟩:=h.lt,D6 w Xo 34;have D:=(Ax B).1;have H:=(Ax B).2.1;have G:Hid (Aa W w.1.size AU):=(Ax (l:=AU) B).2.2;have C:Hid (AB W b a n c p/\ep w W (an b)/\W.1.size=w.1.size+1):=⟨h.A D,Af _ D,H⟩;have E:=Yw d;have F:=Yw B;clear B D H h d;delta D8;go_in;go_upto_region 1 with fail;rw[<-F.o];clear F;go_wp2_with fail;refine(AE 24 C.1 hp Yv Yv Yv).ai ?_;rintro e w1 ⟨r1,rfl,j,o,H,B⟩;have D:=Ai C.2.1 B;have yM:w.1.size<w1.1.size:=by have:=B.size;have:=C.2.2;omega
 have d:Hid (ep w w1 (an b)/\Aa w1 w.1.size AU/\AB w1 b a n c (p+1)):=⟨D,G.au B Yv,H⟩;clear H B D C G;by_cases q1:r1=0
 .have U:(r1==0)=bg:=Yt;clear q1;go_wp2_with fail;refine(E b a n c (p+1) w1 d.2.2 Yv Yv).ai ?_;rintro e w2 ⟨⟨cs,rfl,hv⟩,C,G⟩;have D:=Yw (MJ (w:=w) (p:=p) (k:=60000) (by obtain⟨S,T,k2,k3⟩:=C;exact⟨S,T,Yv,Yv⟩) (Ai d.1 G) (d.2.1.au G Yv) (λV X B hT=>hv V X (λg I=>Dl (B g I)) hT) N);clear hv C G;go_wp2_with (refine wpList_store_mid rfl 34 _ _ rfl w.1.size 0 (ei cs) rfl rfl D.1.1 (by rw[A0,D.1.2.1];kernel_rfl) (all_oneCell_toArray D.1.2.2) ?_);exact bodyPost_ret (AM results15 _ _ w.1.size cs _ rfl (Aa.range D.2.1) underlying34 rfl M4) rfl D.2.2
 have U:(r1==0)=bq:=Yt;clear q1 E;go_wp2_with fail;refine(Ro d.2.2 Yv Yv).ai ?_;rintro e w2 ⟨vs,rfl,R,⟨p2,P,yT,yU⟩,F⟩;obtain⟨i,W2,E⟩:=F.size,D6 w2 Xo 34;have C:=(Ax E).1;have f:Aa W2 w2.1.size AU:=(Ax (l:=AU) E).2.2;have Q:CS (λg=>g<=w.1.size\/g=w2.1.size) W2 vs:=by obtain⟨u,O,h⟩:=R;refine RV.new (m:=w1.1.size) ⟨u,O,h⟩ yM C
 obtain⟨HP,W3,K⟩:=Yw (FO.put (w:=w) (X:=W2) (p:=p) (k:=40001) (q:=w2.1.size) (vs:=vs) ⟨p2,P.A C,Yv,Yv⟩ (Ai d.1 (Ai F (Af _ C))) (Aa.A (v:=Ze) (d.2.1.au F Yv) C) f rfl Q Yv N),Ag (W2.setCells w2.1.size 0 (ei vs).toList);rw[<-K]at HP;have J:=Yw E;have M:=Yw K;have L:Hid (FO w W3 b a n c p 40001 w2.1.size vs/\eh vs=17/\∀u∈vs,u.oneCell'=bg):=gD;clear R P F C f Q E K d;go_upto_region 4 with(refine wpList_store_mid rfl 34 _ _ rfl w2.1.size 0 (ei vs) rfl rfl (by rw[<-J.o];exact HP.2.1) (by rw[A0,HP.1.1];kernel_rfl) (all_oneCell_toArray HP.1.2) ?_);rw[<-J.o,<-M.o];clear J M HP;have zY:w.1.size<w2.1.size:=Yv;generalize w2.1.size=q at *
 clear i;have⟨p3,zB,xC,yV⟩:=L.1.rd;go_wp2_with fail;refine(AE 8 zB Yv Yv Yv Yv).ai ?_;rintro e w4 ⟨r4,rfl,Q,f,E,d⟩;have C:Hid (FO w w4 b a n c p 40002 q vs/\eh vs=17/\∀u∈vs,u.oneCell'=bg):=⟨L.1.go ⟨p3+1,E,Yv,Yv⟩ d N,L.2⟩;clear zB E d L;by_cases q4:0<r4
 .have K:bx (0<r4)=bg:=Yt
  have D:=Yw (MJ (w:=w) (X:=w4) (b:=b) (a:=a) (n:=n) (c:=c) (p:=p) (k:=60000) (cs:=vs) (by have⟨S,T,k2,k3⟩:=C.1.rd;exact⟨S,T,Yv,Yv⟩) C.1.gr C.1.z (λV X B hT=>C.1.rv.st V X (λg I=> dp (B g I)) hT) N);clear q4;go_wp2_with (first
   |refine wpList_load_mid rfl 34 _ rfl q 0 rfl vs _ C.1.x.range underlying34 rfl M7 ?_
   |refine wpList_store_mid rfl 34 _ _ rfl w.1.size 0 (ei vs) rfl rfl D.1.1 (by rw[A0,D.1.2.1];kernel_rfl) (all_oneCell_toArray D.1.2.2) ?_)
  exact bodyPost_ret (AM results15 _ _ w.1.size vs _ rfl (Aa.range D.2.1) underlying34 rfl M4) rfl D.2.2
 have K:bx (0<r4)=bq:=Yt;clear q4;have⟨p4,E,L,J⟩:=C.1.rd;go_wp2_with fail;refine(AE 6 E Yv Yv Yv Yv).ai ?_;rintro e X ⟨r,rfl,r0,r5,R,I⟩;have hI:=C.1.go (k':=40003) ⟨p4+1,R,Yv,Yv⟩ I N;obtain⟨u,d,O,rfl,hv⟩:=hI.rv.fix;have F:Hid (Aa X q (Xp u d)/\Aa X w.1.size AU/\ep w X (an b)/\AB X b a n c (p4+1)):=⟨hI.x,hI.z,hI.gr,R⟩;have M:Hid (Oc u):=O;have P:=Yw hv;have zI:q<X.1.size:=hI.x.lt;clear E R I hI O hv C;have⟨p5,C⟩:∃z:Int,z=p4+1:=⟨_,rfl⟩;rw[<-C]at F;have yW:p<=p5/\p5<=p+40003:=Yv;clear C L J Q f j o U K;have C:Hid (Bc X X.1.size d u/\Jc X d u):=P.o [] X Yu (Tn.of Ae);have J:Hid (∀Y E,ep X Y (an b)->(∃S,AB Y b a n c S/\p<=S/\S<=p+60000)->Is (λg=>g<=w.1.size\/g=q) Y E->VF w Y b a n c p 60000 q (Xp u d) E):=λY E hY R i=>⟨R,Ai F.2.2.1 hY,F.2.1.au hY Yv,F.1.au hY Yv,i,zY⟩;go_upto_block 0 with fail;go_cut [] (λE=>Hid (Jf w b a n c p 60000 q E))
 case rest=>
  clear F M P C J zI;revert wc;intro Z E;have⟨cs,O⟩:=E.o;have D:=Yw (MJ (w:=w) (X:=Z) (b:=b) (a:=a) (n:=n) (c:=c) (p:=p) (k:=60000) (cs:=cs) O.rd O.gr O.z (λV Y B hT=>O.rv V Y (λg I=> dp (B g I)) hT) N);have yE:Hid (Aa Z q cs):=O.x;clear E O;go_wp2_with (first
   |refine wpList_load_mid rfl 34 _ rfl q 0 rfl cs _ (Aa.range yE) underlying34 rfl M4 ?_
   |refine wpList_store_mid rfl 34 _ _ rfl w.1.size 0 (ei cs) rfl rfl D.1.1 (by rw[A0,D.1.2.1];kernel_rfl) (all_oneCell_toArray D.1.2.2) ?_)
  exact bodyPost_ret (AM results15 _ _ w.1.size cs _ rfl (Aa.range D.2.1) underlying34 rfl M4) rfl D.2.2
 have L:Hid (∀(Y:Zh) (j:Nat) (x:Int),j=0\/j=1\/j=16->ep X Y (an b)->(∃S,AB Y b a n c S/\p<=S/\S<=p+60000)->Jf w b a n c p 60000 q (ev Y (Zd q j) (Zg x))):=λY j x K hY R=>by
  have E:∀V Z,(∀g∈V,g<=w.1.size\/g=q)->Tn V Y Z->Bc Z Z.1.size d u/\Kv d u/\eh u.C<=d.T:=λV Z B hT=>by have:=P (b::V) Z (λg I=>by rcases Cf.1 I with e|e;exact dp Yv;exact B g e) ((Tn.grown (V:=[b]) hY Yu).ai Yu|>.trans (hT.ai gA));exact⟨this.1,this.2.cap,this.2.t.1⟩
  have f:=M.fit;rcases K with rfl|rfl|rfl
  .exact(J Y _ hY R (λV Z B hT=>⟨{u with wd:=x},d,rfl,⟨(E V Z B hT).1.s,(E V Z B hT).1.t,(E V Z B hT).1.st,(E V Z B hT).1.q,(E V Z B hT).1.m⟩,⟨(E V Z B hT).2.1.s,(E V Z B hT).2.1.t,(E V Z B hT).2.1.m⟩,⟨f.s,f.t,f.ss,f.C,f.st,f.r⟩,(E V Z B hT).2.2⟩)).put (l1:=[]) (l2:=[Zg u.wd]) (ns:=[Zg x]) rfl N
  .exact(J Y _ hY R (λV Z B hT=>⟨{u with lim:=x},d,rfl,⟨(E V Z B hT).1.s,(E V Z B hT).1.t,(E V Z B hT).1.st,(E V Z B hT).1.q,(E V Z B hT).1.m⟩,⟨(E V Z B hT).2.1.s,(E V Z B hT).2.1.t,(E V Z B hT).2.1.m⟩,⟨f.s,f.t,f.ss,f.C,f.st,f.r⟩,(E V Z B hT).2.2⟩)).put (l1:=[Zg u.wd]) (l2:=[Zg u.lim]) (ns:=[Zg x]) rfl N
  exact(J Y _ hY R (λV Z B hT=>⟨{u with ro:=x},d,rfl,⟨(E V Z B hT).1.s,(E V Z B hT).1.t,(E V Z B hT).1.st,(E V Z B hT).1.q,(E V Z B hT).1.m⟩,⟨(E V Z B hT).2.1.s,(E V Z B hT).2.1.t,(E V Z B hT).2.1.m⟩,⟨f.s,f.t,f.ss,f.C,f.st,f.r⟩,(E V Z B hT).2.2⟩)).put (l1:=[Zg u.wd,Zg u.lim,cr d.Y (eh u.ss) d.sc,cr d.V (eh u.C) d.T,Zg u.J,Zg u.F,Zg u.G,Zg u.E,cr d.Q (eh u.B) d.W,cr d.L (eh u.ps) d.P,cr d.K (eh u.ls) d.O,Zg u.I,cr d.Z (eh u.H) d.y,cr d.g (eh u.ms) d.j,Zg u.N,Zg u.M]) (l2:=[Zg u.ro]) (l3:=[]) (ns:=[Zg x]) rfl N
 rcases(show r=0\/r=1\/r=2\/r=3\/r=4\/r=5 by omega)with rfl|rfl|rfl|rfl|rfl|rfl
 .as_aux_lemma=>
  have U:=Yw (VB u.J u.F u.G u.E d.W d.P d.O F.2.2.2 Yv Yv C.1.st C.2.k C.2.p C.2.l M.st M.sm);go_wp2_with (refine wpList_load_mid rfl 30 _ rfl q 4 rfl (Yh u.J u.F u.G u.E d.Q (eh u.B) d.W d.L (eh u.ps) d.P d.K (eh u.ls) d.O) _ (Aa.dq [Zg u.wd,Zg u.lim,cr d.Y (eh u.ss) d.sc,cr d.V (eh u.C) d.T] (Yh u.J u.F u.G u.E d.Q (eh u.B) d.W d.L (eh u.ps) d.P d.K (eh u.ls) d.O) (Xu u.I d.Z (eh u.H) d.y d.g (eh u.ms) d.j u.N u.M u.ro) F.1) underlying30 rfl Yr ?_);refine U.Aj ?_;rintro e Y ⟨⟨cs,rfl,K⟩,⟨S,T,k2,k3⟩,G⟩;have zA:eh cs=7/\∀v∈cs,v.oneCell'=bg:=by obtain⟨_,_,_,_,_,_,_,_,_,_,_,_,_,rfl,_⟩:=(K [] Y Yu (Tn.of Ae)).ex;exact⟨rfl,by simp[oneCell']⟩
  have i:Is (λg=>g<=w.1.size\/g=q) Y ([Zg u.wd,Zg u.lim,cr d.Y (eh u.ss) d.sc,cr d.V (eh u.C) d.T]++(cs++(Xu u.I d.Z (eh u.H) d.y d.g (eh u.ms) d.j u.N u.M u.ro))):=λV Z B hT=>by
   have hz:=G.size;obtain⟨H,Q⟩:=P (b::V) Z (λg I=>by rcases Cf.1 I with e|e;exact dp Yv;exact B g e) ((Tn.grown (V:=[b]) G Yu).ai Yu|>.trans (hT.ai gA));obtain⟨yR,zO,zE,zC,ta,tc,pa,pc,la,lc,ks,ps,ls,rfl,s1,s2,_⟩:=(K V Z (λg I=>Dl (B g I)) hT).ex;have f:=M.fit;exact⟨{u with J:=yR,F:=zO,G:=zE,E:=zC,B:=ks,ps:=ps,ls:=ls},{d with Q:=ta,W:=tc,L:=pa,P:=pc,K:=la,O:=lc},rfl,⟨H.s,H.t,s1,H.q,H.m⟩,⟨Q.cap.s,Q.cap.t,Q.cap.m⟩,⟨f.s,f.t,f.ss,f.C,⟨s2.kn,λk s=>(s2.k k s).n,s2.pn,s2.ln⟩,f.r⟩,Q.t.1⟩
  have O:=J Y _ G ⟨S,T,Yv,Yv⟩ i;have D:Hid (Y.there q 4 (ei cs).size/\eh cs=7/\(∀v∈cs,v.oneCell'=bg)/\Jf w b a n c p 60000 q (Y.setCells q 4 (ei cs).toList)):=⟨by rw[A0,zA.1];exact Aa.cw [Zg u.wd,Zg u.lim,cr d.Y (eh u.ss) d.sc,cr d.V (eh u.C) d.T] (Yh u.J u.F u.G u.E d.Q (eh u.B) d.W d.L (eh u.ps) d.P d.K (eh u.ls) d.O) (Xu u.I d.Z (eh u.H) d.y d.g (eh u.ms) d.j u.N u.M u.ro) O.x,zA.1,zA.2,O.put (l1:=[Zg u.wd,Zg u.lim,cr d.Y (eh u.ss) d.sc,cr d.V (eh u.C) d.T]) (l2:=(Yh u.J u.F u.G u.E d.Q (eh u.B) d.W d.L (eh u.ps) d.P d.K (eh u.ls) d.O)) (l3:=(Xu u.I d.Z (eh u.H) d.y d.g (eh u.ms) d.j u.N u.M u.ro)) zA.1 N⟩;clear O i K G T U F M P C J L;go_wp2_with (refine wpList_store_mid rfl 30 _ _ rfl q 4 (ei cs) rfl rfl D.1 (by rw[A0,D.2.1];kernel_rfl) (all_oneCell_toArray D.2.2.1) ?_);go_meet;exact D.2.2.2
 .as_aux_lemma=>
  have U:Hid _:=TC u.J u.F u.G u.E d.Q d.L d.K (eh u.B) (eh u.ps) (eh u.ls) d.W d.P d.O u.I u.N u.M u.ro d.y d.j F.2.2.2 Yv Yv (λs=>by
   rcases C.1.st.k with e|⟨g,o,e,_⟩
   .rw[e]at s;simp at s
   refine⟨g,o,e,λY hY=> ?_⟩;rcases(P.o [b] Y Yt (Tn.grown hY Yu)).1.st.k with e'|⟨g',o',e',_,hc⟩
   .rw[e']at s;simp at s
   rw[e]at e';cases e';have⟨k,yJ⟩:∃k,u.B[0]?=an k:=⟨_,Zv s⟩;have:=(hc 0 k yJ).1;rw[Nat.zero_mul,Nat.add_zero]at this;exact⟨_,this⟩) (Dl M.st.n) C.1.q C.1.m C.2.q.2 C.2.m.2 M.rq.1 M.rq.2
  go_wp2_with (first
   |refine wpList_load_mid rfl 30 _ rfl q 4 rfl (Yh u.J u.F u.G u.E d.Q (eh u.B) d.W d.L (eh u.ps) d.P d.K (eh u.ls) d.O) _ (Aa.dq [Zg u.wd,Zg u.lim,cr d.Y (eh u.ss) d.sc,cr d.V (eh u.C) d.T] (Yh u.J u.F u.G u.E d.Q (eh u.B) d.W d.L (eh u.ps) d.P d.K (eh u.ls) d.O) (Xu u.I d.Z (eh u.H) d.y d.g (eh u.ms) d.j u.N u.M u.ro) F.1) underlying30 rfl Yr ?_
   |refine wpList_load_mid rfl 32 _ rfl q 11 rfl (Xu u.I d.Z (eh u.H) d.y d.g (eh u.ms) d.j u.N u.M u.ro) _ (Aa.dq [Zg u.wd,Zg u.lim,cr d.Y (eh u.ss) d.sc,cr d.V (eh u.C) d.T,Zg u.J,Zg u.F,Zg u.G,Zg u.E,cr d.Q (eh u.B) d.W,cr d.L (eh u.ps) d.P,cr d.K (eh u.ls) d.O] (Xu u.I d.Z (eh u.H) d.y d.g (eh u.ms) d.j u.N u.M u.ro) [] F.1) underlying32 rfl Yr ?_)
  refine U.Aj ?_;rintro e Y ⟨⟨cs,rfl,K⟩,⟨S,T,k2,k3⟩,G⟩;have zA:eh cs=6/\∀v∈cs,v.oneCell'=bg:=by obtain⟨_,_,_,_,_,_,_,_,_,_,rfl,_⟩:=(K [] Y Yu (Tn.of Ae)).ex;exact⟨rfl,by simp[oneCell']⟩
  have i:Is (λg=>g<=w.1.size\/g=q) Y ([Zg u.wd,Zg u.lim,cr d.Y (eh u.ss) d.sc,cr d.V (eh u.C) d.T,Zg u.J,Zg u.F,Zg u.G,Zg u.E,cr d.Q (eh u.B) d.W,cr d.L (eh u.ps) d.P,cr d.K (eh u.ls) d.O]++(cs++[])):=λV Z B hT=>by
   have hz:=G.size;obtain⟨H,Q⟩:=P (b::V) Z (λg I=>by rcases Cf.1 I with e|e;exact dp Yv;exact B g e) ((Tn.grown (V:=[b]) G Yu).ai Yu|>.trans (hT.ai gA));obtain⟨ph,top,at_,ro,x,y,xc,yc,qs,ms,rfl,s1,s2,s3,s4⟩:=(K V Z (λg I=>Dl (B g I)) hT).ex;have f:=M.fit;exact⟨{u with I:=ph,H:=qs,ms:=ms,N:=top,M:=at_,ro:=ro},{d with Z:=x,y:=xc,g:=y,j:=yc},rfl,⟨H.s,H.t,H.st,s1,s2⟩,⟨Q.cap.s,Q.cap.t,s4⟩,⟨f.s,f.t,f.ss,f.C,f.st,⟨by show eh qs<=_;omega,by show eh ms<=_;omega⟩⟩,Q.t.1⟩
  have O:=J Y _ G ⟨S,T,Yv,Yv⟩ i;have D:Hid (Y.there q 11 (ei cs).size/\eh cs=6/\(∀v∈cs,v.oneCell'=bg)/\Jf w b a n c p 60000 q (Y.setCells q 11 (ei cs).toList)):=⟨by rw[A0,zA.1];exact Aa.cw [Zg u.wd,Zg u.lim,cr d.Y (eh u.ss) d.sc,cr d.V (eh u.C) d.T,Zg u.J,Zg u.F,Zg u.G,Zg u.E,cr d.Q (eh u.B) d.W,cr d.L (eh u.ps) d.P,cr d.K (eh u.ls) d.O] (Xu u.I d.Z (eh u.H) d.y d.g (eh u.ms) d.j u.N u.M u.ro) [] O.x,zA.1,zA.2,O.put (l1:=[Zg u.wd,Zg u.lim,cr d.Y (eh u.ss) d.sc,cr d.V (eh u.C) d.T,Zg u.J,Zg u.F,Zg u.G,Zg u.E,cr d.Q (eh u.B) d.W,cr d.L (eh u.ps) d.P,cr d.K (eh u.ls) d.O]) (l2:=(Xu u.I d.Z (eh u.H) d.y d.g (eh u.ms) d.j u.N u.M u.ro)) (l3:=[]) zA.1 N⟩;clear O i K G T U F M P C J L;go_wp2_with (refine wpList_store_mid rfl 32 _ _ rfl q 11 (ei cs) rfl rfl D.1 (by rw[A0,D.2.1];kernel_rfl) (all_oneCell_toArray D.2.2.1) ?_);go_meet;exact D.2.2.2
 .as_aux_lemma=>
  have⟨A,hA⟩:=D6 X #[Zg (-1),Zg 1000001] 3;obtain⟨bA,_,T⟩:=Ax (l:=[Zg (-1),Zg 1000001]) hA;have HP:=Yw (AE 2 (F.2.2.2.A bA) Yv Yv Yv Yv);have yX:b<X.1.size:=Yv;subst hA;go_wp2_with fail;refine HP.Aj ?_;rintro e Y ⟨x',rfl,x0,x1,zB,K⟩;obtain⟨j,rfl⟩:∃j:Nat,x'=j:=⟨x'.toNat,Yv⟩;obtain⟨v,hv⟩:=Eg (T.au K Yv) Yu (j:=j) Yt;obtain⟨y0,f0⟩:=F.1.au (Ai (Af _ bA) K) Yv 1 _ rfl;have yK:=K.size;have D:Hid (Jf w b a n c p 60000 q (ev Y (Zd q 1) (Zg v))):=L Y 1 v Yu (Ai (Af _ bA) K) ⟨_,zB,Yv,Yv⟩;simp only[Ao]at yK;have zX:q<Y.1.size:=Yv;clear zB K HP T bA F M P C J L;go_wp2;go_meet;exact D.o
 .have HP:=Yw (AE 10 F.2.2.2 Yv Yv Yv Yv);go_wp2_with fail;refine HP.Aj ?_;rintro e Y ⟨x,rfl,x0,x1,zB,K⟩;obtain⟨y0,f0⟩:=F.1.au K Yv 0 _ rfl;have D:Hid (∀z,Jf w b a n c p 60000 q (ev Y (Zd q 0) (Zg z))):=gH;have zX:q<Y.1.size:=Zr zI K.size;clear zB K HP F M P C J L;go_wp2;go_meet;exact D _
 .as_aux_lemma=>
  have zP:Hid (∀(Y Z:Zh) (t:Zi) (T:Zk) (U:Nat),Zz X Y->t.size<=5000->Ak Z 0 (cr T (eh u.C+1) U) (u.C++[t])->(((∀yP,ep Y Z yP)/\Al (cr T (eh u.C+1) U)=an Y.1.size)\/∃g o yB zG,(slice d.V (eh u.C) d.T=cr (an ⟨g,yB,ba⟩) (eh u.C) zG/\eh u.C<zG)/\Al (cr T (eh u.C+1) U)=an g/\Z=Y.setCells g o [.string t]/\(ek Y (Zd g o)).isSome=bg)->VF w Z b a n c p 60000 q (Xp u d) ([Zg u.wd,Zg u.lim,cr d.Y (eh u.ss) d.sc]++([cr T (eh u.C+1) U]++[Zg u.J,Zg u.F,Zg u.G,Zg u.E,cr d.Q (eh u.B) d.W,cr d.L (eh u.ps) d.P,cr d.K (eh u.ls) d.O,Zg u.I,cr d.Z (eh u.H) d.y,cr d.g (eh u.ms) d.j,Zg u.N,Zg u.M,Zg u.ro]))):=λY Z t T U hb ht ho zF=>by
   obtain⟨f,xA,hz⟩:=M.fit,CM.1 M.lg,hb.size;have yA:∀s∈u.C++[t],s.size<=1048576:=λs hs=>by
    rcases Bw.1 hs with h|h
    .exact f.C s h
    rw[mem_singleton.1 h];omega
   have zS:=zF;rcases zF with⟨G,zN⟩|⟨g,o,yB,zG,⟨hU,yS⟩,zN,rfl,zZ⟩
   .have yI:bs Y.1.size Y Z:=⟨(G ba).os,(G ba).tape,(G ba).output,(G ba).size,λi hi=>(G ba).block i hi Yu⟩;have zH:=hb.ag (yI.ai hz);refine J Z _ (Af _ zH) ⟨p5,F.2.2.2.A zH,Yv,Yv⟩ (λV Z' B hT=> ?_);obtain⟨H,Q⟩:=P V Z' B ((Tn.of zH).ag hT);have zM:=ho.S hT (λg I zK=>by
     rw[zN]at I;have:=A8 I;have:=B g zK;omega)
    have⟨_,_,e,R⟩:=zM.row;have hc:=ho.cap;rw[Am,length_singleton]at e hc;cases e;exact⟨{u with C:=u.C++[t]},{d with V:=T,T:=U},by simp[Bd],⟨H.s,R,H.st,H.q,H.m⟩,⟨Q.cap.s,λe=>by have:=hc.2 e;simp at this,Q.cap.m⟩,⟨f.s,Yt,f.ss,yA,f.st,f.r⟩,by rw[Am,length_singleton];exact hc.1⟩
   have yY:g<Y.1.size:=(by have⟨v,hv⟩:=Option.isSome_iff_exists.1 zZ;exact Bf Y _ hv);have yZ:¬(g<=w.1.size\/g=q):=λxD=>by
    have⟨X',yH⟩:∃X':Zh,X'={Y with heap:=Y.1.setIfInBounds g (ca #[] 30)}:=⟨_,rfl⟩;have zU:X'.1[g]?=an (ca #[] 30):=gA;have hT:Tn [g] Y X':=(by rw[yH];exact⟨rfl,rfl,rfl,Yu,λi _ hi=>by simp at hi;simp[Ne.symm hi]⟩);have H:=(P.o [g] X' Yt ((Tn.of hb).ag hT)).2.tw;rw[hU]at H;rcases H with⟨e,_⟩|⟨_,_,_,e,_,_,_,_,h4,_⟩
    .cases e
    cases e;have:=(h4 0 Yv).1;simp[cell?,zU]at this
   have tZ:=AD g [.string t] o Y;have zU:ep X (Y.setCells g o [.string t]) (an b)\/True:=Yu;have zV:∀i,(i<=w.1.size\/i=q)->(Y.setCells g o [.string t]).1[i]?=Y.1[i]?:=λi hi=>by
    by_cases hlt:i<Y.1.size
    .exact tZ.block i hlt Yt
    exact absurd hi Yv
   refine⟨⟨p5,(F.2.2.2.A hb).S tZ Yt Yt,Yv,Yv⟩,?_,Aa.same (Aa.A (v:=Ze) F.2.1 hb) (zV _ (dp (Zx))),Aa.same (Aa.A F.1 hb) (zV _ (eb rfl)),λV Z' B hT=> ?_,zY⟩
   .exact Cs (Ai F.2.2.1 (Af _ hb)) tZ Yt
   have zT:g∉V:=gG;obtain⟨Y',yG,yL,i,zJ⟩:=restore zT zZ hT;have⟨H,Q⟩:=P V Y' B ((Tn.of hb).ag yG);have⟨rs,hS,zS⟩:=Q.so;have yF:=(hS.at (λg' B=>i g' (λe=>zS g (by rw[hU];rfl) (e▸B)))).get;have⟨yQ,l1,m1,r1⟩:=H.s.over i zJ;have⟨yO,l2,_,r2⟩:=H.q.over i zJ;have⟨yN,l3,_,r3⟩:=H.m.over i zJ;rw[yL]at r1 r2 r3;have zM:=ho.S hT (λg' B zK=>by
    rw[zN]at B;have e:=A8 B;exact zT (e▸zK))
   have⟨_,_,e,R⟩:=zM.row;have hc:=ho.cap;rw[Am,length_singleton]at e hc;cases e;exact⟨{u with ss:=yQ,C:=u.C++[t],H:=yO,ms:=yN},{d with V:=T,T:=U},by simp[Bd,l1,l2,l3],⟨r1,R,yF,r2,r3⟩,⟨by rw[l1];exact Q.cap.s,λe=>by have:=hc.2 e;simp at this,by rw[l3];exact Q.cap.m⟩,⟨by rw[l1];exact f.s,Yt,λs hs=>by rcases m1 s hs with h|h;exact f.ss s h;rw[h];omega,yA,f.st,⟨by rw[l2];exact f.r.q,by rw[l3];exact f.r.m⟩⟩,by rw[Am,length_singleton];exact hc.1⟩
  have yC:Hid (∀(Y:Zh) (t:Zi),Zz X Y->t.size<=5000->∃T U Z,(Builtin.append_ #[23,23] 23 #[cr d.V (eh u.C) d.T,Yz Y.1.size 1 1]).run prog (Y.alloc (ca #[.string t] 9))=.ok (cr T (eh u.C+1) U) Z/\Aa Z q (Xp u d)/\Jf w b a n c p 60000 q (ev Z (Zd q 3) (cr T (eh u.C+1) U))):=λY t hY ht=>by
   have bA:bs Y.1.size Y (Y.alloc (ca #[.string t] 9)):=gB;have hb:=hY.ag (bA.ai hY.size);have xE:=(CM.1 M.lg).1;obtain⟨v',Z,s,ho,zF⟩:=PC (C.2.A C.1 hb).tw ⟨Y.1.size,0,ba⟩ 1 t gA Yv (Aq _) 23;obtain⟨T,U,rfl,_⟩:=ho.row;rw[Am,length_singleton]at s zF ho;have hI:=zP _ Z t T U hb ht ho zF;exact⟨T,U,Z,s,hI.x,hI.put (l1:=[Zg u.wd,Zg u.lim,cr d.Y (eh u.ss) d.sc]) (l2:=[cr d.V (eh u.C) d.T]) (ns:=[cr T (eh u.C+1) U]) rfl N⟩
  have HC:Hid (D8 43 #[ct #[Zg 6,Zc,Zc,Zg 1,Zc,Zb],Zg 8] X.drew _):=IX 6 ⟨#[]⟩ ⟨#[]⟩ 1 ⟨#[]⟩ ba 0 [] 8 X.drew (dp rfl) (Aq _) (Aq _) (Aq _);obtain⟨u3,_⟩:=F.1 3 _ rfl;have yD:Hid (Aa X q (Xp u d)):=gD;clear zP F M P C J L;go_upto_region 7 with fail
  go_region_law (first
   |(go_simp;go_at_call 43;refine HC.Aj ?_;rintro e wf ⟨rfl,B⟩;have t:bs X.1.size X wf:=BO B;have zf:=t.size;obtain⟨T,U,Y,R,hxY,O⟩:=yC wf (Cv 6 ⟨#[]⟩ ⟨#[]⟩ 1 ⟨#[]⟩ [] 8) t (IQ _ _ _ _ _ _ _);have V:=Aa.A yD t;have m1:=(V 3 _ rfl).1;obtain⟨y1,f1⟩:=hxY 3 _ rfl;have a1:ek (wf.alloc (ca #[.string (Cv 6 ⟨#[]⟩ ⟨#[]⟩ 1 ⟨#[]⟩ [] 8)] 9)) (Zd q 3)=an (cr d.V (eh u.C) d.T):=(Aa.A V (Zy) 3 _ rfl).1;have D:=Yw O;clear V hxY O B;go_wp2_with fail)
   |(refine Bu Yp (.tmp 19) (.tmp 22) 23 23 Yp Yp Yp R ?_))
  all_goals
   go_wp2;go_meet;exact D.o
 have HP:=Yw (AE 3 F.2.2.2 Yv Yv Yv Yv);go_wp2_with fail;refine HP.Aj ?_;rintro e Y ⟨x,rfl,x0,x1,zB,K⟩;obtain⟨y0,f0⟩:=F.1.au K Yv 16 _ rfl;have D:Hid (∀z,Jf w b a n c p 60000 q (ev Y (Zd q 16) (Zg z))):=gH;have zX:q<Y.1.size:=Zr zI K.size;clear zB K HP F M P C J L;go_wp2;go_meet;exact D _
section
