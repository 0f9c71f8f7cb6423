import Derived.Test.YtfehblndlffcmaaGreatDoorX02
import Derived.Laws.IdiomCopy
import Derived.Laws.NewBlocks
import Derived.Laws.AppendOwn
import Derived.Lib.AppendZerosOnto
import Derived.Lib.Overlaps
import Derived.Lib.Walk
import Derived.Deep.MidRow
import Derived.Laws.ResultCell
set_option maxRecDepth 100000
set_option maxHeartbeats 16000000
open Option renaming some->an,none->ba
open Bool renaming true->bg,false->bq
open Go.RowKit renaming Below->bs
open Decidable renaming decide->bx
open Go.Obj renaming cells->ca
open Go.Value renaming slice->cr,agg->ct,pointer->ee,bool->ef,ownBlock->ej
open Or renaming inl->dp,inr->eb
open List renaming length->eh,toArray->ei
open Go.World renaming cell?->ek,frozen?->el,ownsRow->eo,grownBy->ep,setCell->ev
open Go renaming maxLen->ew
namespace Go.Proofs.YtfehblndlffcmaaGreatDoor
open ChangeShapes WideShapes ChangeAt RowKit _root_.Go.Proofs.Tryz List World Value
variable{w:Zh}{o:C9}{c a n f p u l r q C:Int}{U V:List Nat}{j g d b m i size k h H B G D bt:Nat}{e:TypeId}{O P L v zv:Value}{t:Da}{s:Zi}{x:Pd}{z:Db}{rest:List Oper}
def HN(w:Zh)(m N:Nat):Prop:=∃n f,n<=N/\Bb w 122 m n f
theorem Ka(A z h c:Int)(a p l:Zk)(U S R:Nat)(j:C9)(t:Db)(s:Da)(w:Zh)(o:Bo w w.1.size a p l j t s)(hk:eh j<=600)(hp:eh t<=100)(hl:eh s<=200)(zZ:∀k∈j,(k.sum.size:Int)=A)(h8:A<=8):
 D8 53 #[ct (Yg A z h c a (eh j) U p (eh t) S l (eh s) R)] w λe n=>∃d m O P L,e=C5 (Yy d)/\Dr n (w.1.size+1) d m O P L A z h c j t s/\HU n (w.1.size+1) m A j/\(HN n m 600/\m<=w.1.size+3)/\Zz w n:=by
 obtain⟨y,r,u⟩:=AW.new w A z h c (C2 a j U) (C2 p t S) (C2 l s R) 30,D6 w (C8 A z h c a j U p t S l s R) 30;have v:=(Ax u).1;have zC:=(Ax u).2.1;rw[<-u]at y;obtain⟨G,d,zJ,S0⟩:=Yw o,Yw y,Yw u,Gm y;have q:ek r.drew (Zd (w.1.size) 0)=an (Zg A)/\ek r.drew (Zd (w.1.size) 1)=an (Zg z)/\ek r.drew (Zd (w.1.size) 2)=an (Zg h)/\ek r.drew (Zd (w.1.size) 3)=an (Zg c)/\ek r.drew (Zd (w.1.size) 4)=an (C2 a j U)/\ek r.drew (Zd (w.1.size) 5)=an (C2 p t S)/\ek r.drew (Zd (w.1.size) 6)=an (C2 l s R):=S0;have K0:Br r.drew r.drew.1.size a j:=Br.ai (Br.A o.k v.drew) v.size;have zU:eh j<=1048576:=Yv;have zY:eh t<=1048576:=Yv;have zV:eh s<=1048576:=Yv;clear o y u;delta D8;go_in;go_upto_region 1 with fail;rw[<-zJ.o];go_region_held3 (λn=>ek n (Zd (w.1.size) 0)=an (Zg A)/\ek n (Zd (w.1.size) 1)=an (Zg z)/\ek n (Zd (w.1.size) 2)=an (Zg h)/\ek n (Zd (w.1.size) 3)=an (Zg c)/\ek n (Zd (w.1.size) 4)=an (C2 a j U)/\ek n (Zd (w.1.size) 5)=an (C2 p t S)/\ek n (Zd (w.1.size) 6)=an (C2 l s R))
  (first|exact S3|exact S2|exact S1|exact q|exact Gm (AW.A i (Zy)))
  (first
  |(go_at_call 92;refine(QE A z h c U (C2 p t S) (C2 l s R) K0 zU zZ h8).ai ?_;rintro e F ⟨m,f,rfl,hm,hM,hH,T⟩;have I:bs r.1.size r F:=(Below.refl r.1.size r).drew.ag T;have S1:=Gm (AW.A d I))
  |(go_at_call 59;refine(JY S (AS.ai (AS.A G.p (v.ag (I.ai v.size))) (v.ag (I.ai v.size)).size) zY).ai ?_;rintro e M ⟨K,D,rfl,Z,E⟩;have Q:bs r.1.size r M:=I.ag (E.ai I.size);have S2:=Gm (AW.A d Q))
  |(go_at_call 60;refine(IU R (AR.ai (AR.A G.l (v.ag (Q.ai v.size))) (v.ag (Q.ai v.size)).size) zV).ai ?_;rintro e o ⟨J,C,rfl,b,n⟩;have B3:bs r.1.size r o:=Q.ag (n.ai Q.size);have i:=Yw (AW.A d B3);have S3:=Gm i))
 have⟨H,u⟩:=D6 o #[Zg A,.map (an m),Zg z,Zg h,Zg c,Zb,C2 K t D,C2 J s C] 103;obtain⟨yK,N,Z4⟩:=(Ax u).2.1,(Ax u).1,(Ax u).2.2;have yB:w.1.size+1<=F.1.size:=gB;have L:=E.size;have yC:=n.size;have zX:m<F.1.size:=hM.lt;have B4:bs w.1.size w H:=gB;have P:Hid (bs r.drew.1.size r.drew H):=((T.ag (E.ai Yt)).ag (n.ai Yt)).ag (N.ai Yt);have zA:=Yw (AW.A i N);have X:Hid (Bb H 122 m (eh j) f):=hM.ah (B:=F.1.size) ((E.ag (n.ai L)).ag (N.ai Yv)) zX;have zI:Hid (eo H F.1.size 81 2 (C2 K t D) (eh t) (Ad pC t)):=Ah (Ah Z n) N;have zF:Hid (eo H M.1.size 83 3 (C2 J s C) (eh s) (Ad lC s)):=Ah b N;have Y:Hid (∀g,ej (C2 K t D)=an g->F.1.size<=g/\g<M.1.size):=λg y=>Ac Z y;have V:Hid (∀g,ej (C2 J s C)=an g->M.1.size<=g/\g<o.1.size):=λg y=>Ac b y;have HH:=Yw hH;have zM:=Yw Z4;have zW:w.1.size+1<=m/\m<=w.1.size+3:=by have:=hm;simp at this;omega
 rw[<-u];clear u S0 q S1 S2 S3 i d I Q B3 T E n hM Z b hH Z4 K0 hm;have⟨x0,x1,x2,x3,x4,x5,x6,x7⟩:=zA.o;go_wp2;go_loopw [25] (λi wr=>∃(k:Nat) (O:D4),k<=eh j/\i=Zg k/\Hid (Aa wr o.1.size [Zg A,.map (an m),Zg z,Zg h,Zg c,O,C2 K t D,C2 J s C])/\Hid (eo wr (o.1.size+1) 122 8 O (eh ((j.take k).map (·.sum))) (AV ((j.take k).map (·.sum))))/\bs o.1.size H wr) (λi _=>eh j -(intOf i).toNat)
 case atStart=>exact⟨0,_,Aq _,rfl,zM,⟨rfl,dp ⟨rfl,rfl⟩⟩,Ae⟩
 obtain⟨k,O,yH,rfl,HZ,Q,n⟩:=hrel;have⟨x0,x1,x2,x3,x4,x5,x6,x7⟩:=AW.ah zA n Yv;have yM:o.1.size+1<=wr.1.size:=gB;by_cases hlt:k<eh j
 .obtain⟨b,yN,ha,hb,hc⟩:=(Br.A G.k (B4.ag (n.ai Yv))).at hlt;subst ha;have HG:Hid (j[k]?=an j[k]):=Zv hlt;obtain⟨c0,c1,c2,ra,rc,c3,_⟩:=hc k _ HG;have yG:b<wr.1.size:=Yv;have HN:Hid ((j.take (k+1)).map (·.sum)=(j.take k).map (·.sum)++[j[k].sum]):=by show _=_;rw[Zu hlt,map_append];rfl
  have yI:eh ((j.take k).map (·.sum))<=600:=Yt;generalize j[k]=x at *
  generalize (j.take k).map (·.sum)=Os at *
  have⟨E,u⟩:=D6 wr #[C4 x.sum,Zg x.born,C4 x.i,C2 ra x.D rc] 78;obtain⟨yL,b5,I,zH⟩:=(Ax u).2.1,(Ax u).1,(Ax u).2.2,Yw Q.o;have zG:=Yw (Ah Q b5);have i:=Yw (Aa.A HZ b5);have zE:Hid (bs o.1.size H E):=n.ag (b5.ai Yv);have P5:ek E.drew (Zd (o.1.size) 5)=an O/\ek E.drew (Zd (wr.1.size) 0)=an (C4 x.sum):=⟨(i 5 _ rfl).1,(I 0 _ rfl).1⟩;have D5:bs E.1.size E E.drew:=gB;have zK:=Yw u;clear u I Q HZ;go_upto_region 5 with fail;rw[<-zK.o];obtain⟨W,zB⟩:=P5;have d:∀g,ej O=an g->o.1.size+1<=g/\g<wr.1.size:=λg y=>Ac zH y;have yJ:wr.1.size≠o.1.size:=Yv
  go_region_law (first
   |(go_simp;go_at_call 93;refine(MN x.sum E.drew).ai ?_;rintro e T ⟨rfl,zT⟩;have I:bs E.1.size E T:=D5.ag zT;have yD:ek T (Zd (o.1.size) 5)=an O:=(I.cell (p:=⟨o.1.size,5,ba⟩) Yt).ag W;have zN:ek T (Zd (wr.1.size) 0)=an (C4 x.sum):=(I.cell (p:=⟨wr.1.size,0,ba⟩) Yt).ag zB;have b7:bs E.1.size E (T.alloc (Hz x.sum)):=I.alloc I.size _;have zO:ek (T.alloc (Hz x.sum)) (Zd (o.1.size) 5)=an O:=(b7.cell (p:=⟨o.1.size,5,ba⟩) Yt).ag W;have zP:ek (T.alloc (Hz x.sum)) (Zd (wr.1.size) 0)=an (C4 x.sum):=(b7.cell (p:=⟨wr.1.size,0,ba⟩) Yt).ag zB;have z6:=I.size;have⟨g8,c8,w8,hr8,ho8,hg8,ha8⟩:=Adv Os (Ah zG I) x.sum Yv Yv 101;have Z6:=Aa.A i I;unfold Hz at hr8 zO zP;go_wp2_with fail)
   |(refine Bu Yp (.tmp 33) (.tmp 37) 101 101 Yp Yp Yp hr8 ?_;have yF:ek w8 (Zd (wr.1.size) 0)=an (C4 x.sum):=hg8.cell zN (λe=>by have:=(d _ e.symm).2;simp at this);have Z8:Aa w8 o.1.size _:=(Aa.same Z6 (hg8.block o.1.size Yv (λe=>Dl (d _ e.symm).1)));have yE:=(Z8 5 _ rfl).1;have F8:=(Z8 5 _ rfl).2))
  all_goals
   have yA:bs o.1.size H w8:=(zE.ag (I.ai Yv)).grown hg8 Yv (λg y=>Dl (d g y).1);have Z:=Yw (Zn Z8 (Zn yA ho8));go_wp2;refine⟨⟨k+1,Yz g8 (eh Os+1) c8,Yv,Yn,?_,?_,?_⟩,Ys⟩
   .exact Aa.set Z.1 5 _
   .rw[HN.o];exact ownsRow_setCell_below Z.2.2 Ym _
   exact Z.2.1.setCell Yu _
 obtain rfl:k=eh j:=Yv;rw[Zt (Zx)]at Q;go_wp2;have zS:(vB o.1.size m O (C2 K t D) (C2 J s C)).Nodup:=by
  have hO:∀g,ej O=an g->o.1.size+1<=g:=λg y=>(Ac Q y).1;have hP:∀g,ej (C2 K t D)=an g->F.1.size<=g/\g<M.1.size:=Y.o;have hL:∀g,ej (C2 J s C)=an g->M.1.size<=g/\g<o.1.size:=V.o;unfold vB;generalize ej (C2 K t D)=bp at *
  generalize ej (C2 J s C)=bl at *
  generalize ej O=bo at *
  cases bo<;>cases bp<;>cases bl<;>simp_all<;>omega
 have hV:∀q∈vB o.1.size m O (C2 K t D) (C2 J s C),w.1.size+1<=q:=by
  intro q u;unfold vB at u;simp only[Cf,Bw,By]at u;rcases u with rfl|rfl|u|u|u
  .omega
  .omega
  .have:=(Ac Q u).1;omega
  .have:=(Y _ u).1;omega
  have:=(V _ u).1;omega
 go_ret;refine⟨_,rfl,m,⟨O,_,_,⟨HZ,⟨eh j,f,Yv,X.ah n Yv,?_⟩,?_,?_,?_,Yv,Yv,zS⟩⟩,⟨eh j,f,Yv,X.ah n Yv,?hu,Yv⟩,⟨⟨eh j,f,hk,X.ah n Yv⟩,zW.2⟩,B4.ag (n.ai Yv)⟩
 .have u:r.drew.1.size=w.1.size+1:=zC;rw[<-u];exact BS.of HH (P.ag (n.ai Yt)) (λq u=>by have:=hV q u;simp;omega) ⟨m,rfl,by rw[u];omega⟩
 .have:=Q.o;rw[B0]at this;exact this.ai Yv
 .refine ownsRow.ai ?_ (show w.1.size+1<=F.1.size by omega);exact OW zI n (λg y=>Dl (Y g y).2)
 .refine ownsRow.ai ?_ (show w.1.size+1<=M.1.size by omega);exact OW zF n (λg y=>Dl (V g y).2)
 have u:r.drew.1.size=w.1.size+1:=zC;rw[<-u];exact Holds.low HH (P.ag (n.ai Yt))
def NS(w:Zh)(b:Nat):Prop:=∀cur fz,w.1[b]?≠an (ca cur 9 fz)
theorem Er.move{o:Zh}{c:Nat}{j:List Nat}{a:Zk}{n:Zl}(h:Er w c V a n)(l:Tn U w o)(t:∀b∈U,b∈V\/(c<=b/\NS w b))(u:∀b∈j,b∈V\/w.1.size<=b)(y:j[1]?=V[1]?:=by rfl):Er o c j a n:=by
 rcases h with h|⟨b,g,v,k,m,d,x⟩
 .exact dp h
 have q:b∉U:=λe=>by
  rcases t b e with e|⟨A,r⟩
  .exact m e
  rcases d with d|⟨_,p,d⟩
  .omega
  exact r p _ d
 have f:=l.block b k q;refine eb ⟨b,g,v,Zr k l.size,λe=> ?_,(by rw[f];unfold VR;rw[y];exact d),λi s z=>(cell?_of_block (a:=⟨b,g+i,ba⟩) f).ag (x i s z)⟩;rcases u b e with e|e
 .exact m e
 omega
theorem BS.move{e:Zh}{a:Nat}{c:List Nat}{g:Int}{d:C9}{f:Lit->Option Value}(h:BS w a V g d f)(q:Tn U w e)(m:∀b∈U,b∈V\/(a<=b/\NS w b))(n:∀b∈c,b∈V\/w.1.size<=b)(o:c[1]?=V[1]?:=by rfl):BS e a c g d f:=by
 intro s p;rcases h s p with h|⟨u,r,t,i,j,k,l⟩
 .exact dp h
 exact eb ⟨u,r,t,i,j,k,l.move q m n o⟩
structure DU (w:Zh) (base d m:Nat) (O P L:Value) (wd now given births:Int) (ks:List Kd) (ps:List Pd) (ls:List Ld):Prop where
 U:Dr w base d m O P L wd now given births ks ps ls
theorem DU.lo{j e:Int}{f:C9}{i:Db}{g:Da}(h:DU w b d m O P L j e c a f i g):b<=w.1.size:=by have:=h.U.bd;have:=h.U.box.lt;omega
theorem DU.S{p:Zh}{r:C9}{t:Db}{s:Da}(h:DU w i d m O P L u l c a r t s)(q:Tn V w p)(o:∀b∈V,i<=b/\b∉vB d m O P L/\NS w b):DU p i d m O P L u l c a r t s:=by
 have v:=h.U.db;have k:∀b∈vB d m O P L,p.1[b]?=w.1[b]?:=λb j=>q.block b (v b j) (λe=>(o b e).2.1 j);have⟨n,f,x,y,z⟩:=h.U.map;have h:=h.U;exact⟨⟨Aa.same h.box (k d N1),⟨n,f,x,Bb.same y (k m N1),z.move q (λb j=> eb ⟨(o b j).1,(o b j).2.2⟩) (λb j=> dp j)⟩,Ar h.ord (λg j=>k g (by simp[vB,j])),Ar h.de (λg j=>k g (by simp[vB,j])),Ar h.dh (λg j=>k g (by simp[vB,j])),h.bd,h.bm,h.ap⟩⟩
theorem DU.A{i:Zh}{base:Nat}{j b:Int}{e:C9}{g:Db}{f:Da}(h:DU w base d m O P L j c b a e g f)(k:Zz w i):DU i base d m O P L j c b a e g f:=
 h.S (V:=[]) (Tn.of k) Yu
theorem ZG{d m n:Nat}{O P L a:Option Nat}(h:(d::m::(O.toList++(P.toList++L.toList))).Nodup)(e:∀b∈d::m::(O.toList++(P.toList++L.toList)),b<n)(c:a=L\/∃g,a=an g/\n<=g):(d::m::(O.toList++(P.toList++a.toList))).Nodup:=by
 rcases c with rfl|⟨g,rfl,f⟩
 .exact h
 cases O<;>cases P<;>cases L<;>simp_all<;>grind
theorem ZH{d m n:Nat}{O P L a:Option Nat}(h:(d::m::(O.toList++(P.toList++L.toList))).Nodup)(e:∀b∈d::m::(O.toList++(P.toList++L.toList)),b<n)(c:a=P\/∃g,a=an g/\n<=g):(d::m::(O.toList++(a.toList++L.toList))).Nodup:=by
 rcases c with rfl|⟨g,rfl,f⟩
 .exact h
 cases O<;>cases P<;>cases L<;>simp_all<;>grind
theorem Dv{d m:Nat}{O P L:Option Nat}(h:(d::m::(O.toList++(P.toList++L.toList))).Nodup):d≠m/\(∀g,O=an g->g≠d/\g≠m/\P≠an g/\L≠an g)/\(∀g,P=an g->g≠d/\g≠m/\L≠an g)/\(∀g,L=an g->g≠d/\g≠m):=by cases O<;>cases P<;>cases L<;>simp_all<;>grind
theorem DU.ix{w t:Zh}{k d m:Nat}{O P L:D4}{v C p a:Int}{z:C9}{B:Db}{I:Da}(h:DU w k d m O P L v C p a z B I)(s:Tn (d::(ej L).toList) w t){o:D4}{r:Da}{l c:Int}(u:Aa t d [Zg v,.map (an m),Zg l,Zg c,Zg a,O,P,o])(H:eo t k 83 3 o (eh r) (Ad lC r))(i:ej o=ej L\/∃g,ej o=an g/\w.1.size<=g):DU t k d m O P o v l c a z B r:=by
 obtain⟨⟨D,x,y,E⟩,n,f,J,A,K⟩:=Dv h.U.ap,h.U.map;have F:∀b∈d::(ej L).toList,b∈vB d m O P L:=by
  intro b i;unfold vB;rcases Cf.1 i with rfl|i
  .simp
  simp only[Cf,Bw];exact gA
 have G:∀b∈vB d m O P o,b∈vB d m O P L\/w.1.size<=b:=by
  intro b q;unfold vB at q |-;simp only[Cf,Bw]at q |-;rcases q with e|e|e|e|e
  .omega
  .omega
  .exact gA
  .exact gA
  rcases i with i|⟨g,j,M⟩
  .rw[i]at e;exact gA
  rw[j]at e;simp at e;omega
 refine⟨⟨u,⟨n,f,J,Bb.same A (s.block m A.lt (λe=> ?_)),K.move s (λb i=> dp (F b i)) G⟩,Ar h.U.ord (λg j=>s.block g (Ac h.U.ord j).2 (λe=> ?_)),Ar h.U.de (λg j=>s.block g (Ac h.U.de j).2 (λe=> ?_)),H,h.U.bd,h.U.bm,ZG h.U.ap h.U.db i⟩⟩
 .rcases Cf.1 e with e|e
  .exact D e.symm
  exact(E m gA).2 rfl
 .rcases Cf.1 e with e|e
  .exact(x g j).1 e
  exact(x g j).2.2.2 gA
 rcases Cf.1 e with e|e
 .exact(y g j).1 e
 exact(y g j).2.2 gA
theorem DU.iy{w s:Zh}{k d m:Nat}{O P L:D4}{u p c a:Int}{y:C9}{I:Db}{z:Da}(h:DU w k d m O P L u p c a y I z)(r:Tn (d::(ej P).toList) w s){l:D4}{q:Db}(t:Aa s d [Zg u,.map (an m),Zg p,Zg c,Zg a,O,l,L])(F:eo s k 81 2 l (eh q) (Ad pC q))(i:ej l=ej P\/∃g,ej l=an g/\w.1.size<=g):DU s k d m O l L u p c a y q z:=by
 obtain⟨⟨B,v,x,C⟩,n,f,G,A,H⟩:=Dv h.U.ap,h.U.map;have D:∀b∈d::(ej P).toList,b∈vB d m O P L:=by
  intro b i;unfold vB;rcases Cf.1 i with rfl|i
  .simp
  simp only[Cf,Bw];exact gA
 have E:∀b∈vB d m O l L,b∈vB d m O P L\/w.1.size<=b:=by
  intro b o;unfold vB at o |-;simp only[Cf,Bw]at o |-;rcases o with e|e|e|e|e
  .omega
  .omega
  .exact gA
  .rcases i with i|⟨g,j,J⟩
   .rw[i]at e;exact gA
   rw[j]at e;simp at e;omega
  exact gA
 refine⟨⟨t,⟨n,f,G,Bb.same A (r.block m A.lt (λe=> ?_)),H.move r (λb i=> dp (D b i)) E⟩,Ar h.U.ord (λg j=>r.block g (Ac h.U.ord j).2 (λe=> ?_)),F,Ar h.U.dh (λg j=>r.block g (Ac h.U.dh j).2 (λe=> ?_)),h.U.bd,h.U.bm,ZH h.U.ap h.U.db i⟩⟩
 .rcases Cf.1 e with e|e
  .exact B e.symm
  exact(x m gA).2.1 rfl
 .rcases Cf.1 e with e|e
  .exact(v g j).1 e
  exact(v g j).2.2.1 gA
 rcases Cf.1 e with e|e
 .exact(C g j).1 e
 exact(x g gA).2.2 j
theorem Fp{A:Type}(c:A->Zj)(a b:List A):Ad c (a++b)=Ad c a++Ad c b:=by unfold Ad;simp
theorem Ie{b:Int}(e:0<=a)(c:a<=1000000000)(f:0<=b)(d:b<=1000000000):IntKind.i64.wrap (a+b)=a+b:=by simp[IntKind.wrap,IntKind.bits,IntKind.signed];omega
theorem OH(w:Zh)(a:Nat)(v:D4)(b:Da)(y:eo w a 83 3 v (eh b) (Ad lC b))(x:Ld)(t:eh b<=1000000)(k:a<=w.1.size)(l:TypeId):
 ∃g c f,(Builtin.append_ #[28,28] l #[v,Yz w.1.size 1 1]).run prog (w.alloc (ca #[Zg x.R,C4 x.sum,Zg x.bj] 83))=.ok (Yz g (eh b+1) c) f/\eo f a 83 3 (Yz g (eh b+1) c) (eh (b++[x])) (Ad lC (b++[x]))/\ep w f (ej v)/\(ej v=an g\/g=w.1.size+1):=by
 have⟨A,s,n,o,p⟩:=info_parts Iv;have m:=Ah y (Ae.alloc (Zx) (ca #[Zg x.R,C4 x.sum,Zg x.bj] 83));have r:∀j u,(Ad lC [x])[j]?=an u->ek (w.alloc (ca #[Zg x.R,C4 x.sum,Zg x.bj] 83)) ((⟨w.1.size,0,ba⟩:Addr).add j)=an u:=by intro j u h;rw[A7,Ay];exact(Aa.new w [Zg x.R,C4 x.sum,Zg x.bj] 83 j u (by simpa [Ad,lC]using h)).1
 obtain⟨B,f,z,i,q,_,d⟩:=run_append_own_at (P:=prog) (w.alloc (ca #[Zg x.R,C4 x.sum,Zg x.bj] 83)) a 28 l 83 A _ 3 32 underlying28 s n o p rfl Yq v (eh b) (Ad lC b) m ⟨w.1.size,0,ba⟩ 1 1 (Ad lC [x]) (by simp[Ad,lC]) r (by intro u h;simp[Ad,lC]at h;rcases h with rfl|rfl|rfl<;>rfl) Yo Yv Yt;obtain⟨g,c,rfl,_,_⟩:=BK i (λe=>by subst e;rcases i.2 with⟨_,t⟩|⟨_,_,_,e,_⟩<;>first|omega|cases e);refine⟨g,c,f,z,?_,(grownBy_alloc w _ _).ag q,?_⟩
 .rw[Fp,Am];exact i
 rcases d with d|d
 .exact dp d.symm
 right;simpa [ownBlock]using d
theorem Ph{n d m:Nat}{O P L:D4}{u j a c:Int}{v:C9}{B:Db}{i:Da}{s:Zi}(f:Int){w:Zh}(h:DU w n d m O P L u j a c v B i)(l:∀k∈v,(k.sum.size:Int)=u)(o:AA v s)(hl:eh i<200)(zH:0<=a)(zI:a<1000000000)(zB:0<=j)(zC:j<=1000000000)(zF:0<=f)(zG:f<=1000000000):
 D8 135 #[ee (an ⟨d,0,ba⟩),C4 s,Zg f] w λe p=>e=C5 (Zg (a+1))/\∃R,DU p n d m O P R u j (a+1) c v B (i++[⟨a+1,s,j+f⟩])/\Tn (d::(ej L).toList) w p:=by
 have HN:Hid _:=EM h.U l o;have V:Hid (DU w n d m O P L u j a c v B i):=h;have zK:((eh i:Int)==200)=bq:=E8;have zJ:(a==1000000000)=bq:=E8;clear h l o;delta D8;go_in;go_wp2_with fail;refine HN.Aj ?_;rintro e z ⟨rfl,F⟩;have q:=V.A F;have⟨r,p,k⟩:=Au q.U.dh;subst k;obtain⟨⟨S,_⟩,⟨T,f3⟩,⟨U,_⟩,X,G⟩:=q.U.box 2 _ rfl,q.U.box 3 _ rfl,q.U.box 7 _ rfl,D7 z d 3 (Zg (a+1));have A:Tn [d] z X:=by rw[G];exact AX _ _ _ _
 have x:Aa X d [Zg u,.map (an m),Zg j,Zg (a+1),Zg c,O,P,C2 r i p]:=by rw[G];exact q.U.box.set 3 _
 have K:∀g,ej (C2 r i p)=an g->g≠d:=λg D=>((Dv q.U.ap).2.2.2 g D).1;have Q:eo X n 83 3 (C2 r i p) (eh i) (Ad lC i):=Ar q.U.dh (λg D=>A.block g (Ac q.U.dh D).2 gA);have zA:d<X.1.size:=x.lt;have H:n<=X.1.size:=Zm q.lo A.size;obtain⟨o,l,t,y,zE,N,b⟩:=OH X.drew n _ i (Ah Q (Ae.drew)) ⟨a+1,s,j+f⟩ D9 H 28;dsimp only at y;replace y:(Builtin.append_ #[28,28] 28 #[C2 r i p,C3 (an ⟨X.1.size,0,ba⟩) 1 1]).run prog (X.alloc (ca #[Zg (a+1),C4 s,Zg (j+f)] 83)).drew=.ok (C3 (an ⟨o,0,ba⟩) (eh i+1) l) t:=y;have zM:IntKind.i64.wrap (j+f)=j+f:=Ie zB zC zF zG;have M:bs X.1.size X (X.drew.alloc (ca #[Zg (a+1),C4 s,Zg (j+f)] 83)):=gB;have J:=x.A M;have W:Hid _:=G;have H1:Hid (DU z n d m O P (C2 r i p) u j a c v B i):=q;have Z:Hid (Zz w z):=F;have E:Aa t d [Zg u,.map (an m),Zg j,Zg (a+1),Zg c,O,P,C2 r i p]:=Aa.same x (N.block d E8 (λe=>K d e.symm rfl));have C:Hid (eo t n 83 3 (C3 (an ⟨o,0,ba⟩) (eh i+1) l) (eh (i++[(⟨a+1,s,j+f⟩:Ld)])) (Ad lC (i++[(⟨a+1,s,j+f⟩:Ld)]))/\ep X.drew t (ej (C2 r i p))/\(ej (C2 r i p)=an o\/o=X.drew.1.size+1)):=gD;have Y:Hid (Aa t d [Zg u,.map (an m),Zg j,Zg (a+1),Zg c,O,P,C2 r i p]):=E;have I:Hid (Tn [d] z X):=A;have h:Hid (d<X.1.size):=zA;clear G q F HN V A Q zE N b;go_upto_region 5 with fail;rw[<-W.o];clear W S T U f3;obtain⟨S,T,U⟩:=Aa.c3 x 2 3 7;obtain⟨⟨q,A,F⟩,G,N⟩:=Aa.c3 J 2 3 7,E 7 _ rfl;clear x J E M
 go_region_law (first
  |(refine Bu F1 (.tmp 36) (.tmp 49) 28 28 F1 F1 F1 y ?_))
 all_goals
  clear y S T U q A F;have q:=Y.set 7 (C3 (an ⟨o,0,ba⟩) (eh i+1) l);have M:=(q 3 _ rfl).1;have z7:X.1.size<=t.1.size:=by have:=C.2.1.size;simpa using this
  have y:Hid (Aa (ev t (Zd d 7) (C3 (an ⟨o,0,ba⟩) (eh i+1) l)) d [Zg u,.map (an m),Zg j,Zg (a+1),Zg c,O,P,C3 (an ⟨o,0,ba⟩) (eh i+1) l]):=q;clear q;have q:∃R,DU (ev t (Zd d 7) (C3 (an ⟨o,0,ba⟩) (eh i+1) l)) n d m O P R u j (a+1) c v B (i++[(⟨a+1,s,j+f⟩:Ld)])/\Tn (d::(ej (C2 r i p)).toList) w (ev t (Zd d 7) (C3 (an ⟨o,0,ba⟩) (eh i+1) l)):=by
   have x:Tn (d::(ej (C2 r i p)).toList) z (ev t (Zd d 7) (C3 (an ⟨o,0,ba⟩) (eh i+1) l)):=
    ((I.ai E7).ag ((Tn.of (Ae.drew)).ag ((Du C.2.1).ai (λb A=>mem_cons_of_mem _ A)))).ag ((AX t d 7 _).ai E7)
   have E:∀g,ej (C3 (an ⟨o,0,ba⟩) (eh i+1) l)=an g->g≠d:=λg D=>by
    obtain rfl:o=g:=(by simpa [ownBlock]using D);rcases C.2.2 with e|e
    .exact K o e
    have F:o=X.1.size+1:=e;have J:=h.o;omega
   have A:ej (C3 (an ⟨o,0,ba⟩) (eh i+1) l)=ej (C2 r i p)\/∃g,ej (C3 (an ⟨o,0,ba⟩) (eh i+1) l)=an g/\z.1.size<=g:=by
    rcases C.2.2 with e|e
    .exact dp e.symm
    exact eb ⟨o,rfl,by have F:o=X.1.size+1:=e;have:=I.size;omega⟩
   exact⟨_,H1.ix x y (BM C.1 E 7 _) A,(Tn.of Z).ag x⟩
  have D:Hid _:=q;clear q;go_wp2;go_ret;exact⟨rfl,D⟩
theorem Ua(w:Zh):(zeroValue 83).run prog w=.ok (ct #[Ze,Zc,Ze]) w:=Yr
def DX(x y:Int):Int:=if x<y then -1 else if y<x then 1 else 0
theorem Pj(x y:Int):DX x y<0↔x<y:=by unfold DX;split<;>(try split)<;>omega
theorem Nx(x y:Int):DX x y=0↔x=y:=by unfold DX;split<;>(try split)<;>omega
theorem Pk(x:Int)(w:Zh):D8 192 #[Zg x] w λe a=>e=C5 (ef bq)/\a=w:=by
 have a:(x !=x)=bq:=Yu;delta D8;go_in;go_wp2;go_ret;exact⟨rfl,rfl⟩
theorem Wc(x y:Int)(w:Zh):D8 168 #[Zg x,Zg y] w λe a=>e=C5 (Zg (DX x y))/\a=w:=by
 delta D8;go_in;go_wp2_with fail;refine(Pk x w).ai ?_;rintro e d ⟨rfl,rfl⟩;go_wp2_with fail;refine(Pk y d).ai ?_;rintro e f ⟨rfl,rfl⟩;by_cases h1:x<y
 .have c:bx (x<y)=bg:=Yt;have a:DX x y= -1:=by unfold DX;rw[if_pos h1]
  clear h1;go_wp2;go_ret;exact⟨by rw[a];rfl,rfl⟩
 have c:bx (x<y)=bq:=Yt;by_cases h2:y<x
 .have b:bx (y<x)=bg:=Yt;have a:DX x y=1:=by unfold DX;rw[if_neg h1,if_pos h2]
  clear h1 h2;go_wp2;go_ret;exact⟨by rw[a];rfl,rfl⟩
 have b:bx (y<x)=bq:=Yt;have a:DX x y=0:=by unfold DX;rw[if_neg h1,if_neg h2]
 clear h1 h2;go_wp2;go_ret;exact⟨by rw[a];rfl,rfl⟩
def EG(x y:Zi):Int:=if less x y=bg then -1 else if x=y then 0 else 1
theorem Pm(x y:Zi):EG x y<0↔less x y=bg:=by
 unfold EG;by_cases h:less x y=bg
 .rw[if_pos h];exact⟨λ_=>h,λ_=>Yv⟩
 rw[if_neg h];refine⟨λe=> ?_,λe=>absurd e h⟩;split at e<;>omega
theorem Kb(x y:Zi):EG x y=0↔x=y:=by
 unfold EG;by_cases h:less x y=bg
 .rw[if_pos h];refine⟨λe=>Yv,λe=> ?_⟩;rw[e,Ct]at h;cases h
 rw[if_neg h];split
 .rename_i h2;exact⟨λ_=>h2,λ_=>rfl⟩
 rename_i h2;exact⟨λe=>Yv,λe=>absurd e h2⟩
theorem Pn(x:Zi)(w:Zh):D8 203 #[C4 x] w λe a=>e=C5 (ef bq)/\a=w:=by
 have a:(x.toList !=x.toList)=bq:=Yu;delta D8;go_in;go_wp2;go_ret;exact⟨rfl,rfl⟩
theorem Wd(x y:Zi)(w:Zh):D8 189 #[C4 x,C4 y] w λe a=>e=C5 (Zg (EG x y))/\a=w:=by
 delta D8;go_in;go_wp2_with fail;refine(Pn x w).ai ?_;rintro e c ⟨rfl,rfl⟩;go_wp2_with fail;refine(Pn y c).ai ?_;rintro e d ⟨rfl,rfl⟩;cases h1:Op.bytesLess x.toList y.toList with
 |true=>
  have a:Hid (EG x y= -1):=by show _=_;unfold EG less;rw[if_pos h1]
  go_wp2;go_ret;exact⟨by rw[a.o];rfl,rfl⟩
 |false=>
  by_cases h2:x=y
  .have a:=Yw ((Kb x y).2 h2);have b:(x.toList==y.toList)=bg:=gA;clear h2;go_wp2;go_ret;exact⟨by rw[a.o];rfl,rfl⟩
  have a:Hid (EG x y=1):=by show _=_;unfold EG less;rw[if_neg Yt,if_neg h2]
  have b:=BJ h2;clear h2;go_wp2;go_ret;exact⟨by rw[a.o];rfl,rfl⟩
theorem Ny(x:Ld)(n:Int)(w:Zh):D8 167 #[ct #[Zg x.R,C4 x.sum,Zg x.bj],Zg n] w λe a=>e=C5 (Zg (DX x.R n))/\Zz w a:=by have a:∀o,Zz w (w.alloc o):=gB;delta D8;go_in;go_wp2_with fail;refine(Wc x.R n _).ai ?_;rintro e b ⟨rfl,rfl⟩;go_wp2;go_ret;exact⟨rfl,a _⟩
theorem Ma(x:Pd)(n:Zi)(w:Zh):D8 188 #[ct #[C4 x.name,C4 x.sum],C4 n] w λe a=>e=C5 (Zg (EG x.name n))/\Zz w a:=by have a:∀o,Zz w (w.alloc o):=gB;delta D8;go_in;go_wp2_with fail;refine(Wd x.name n _).ai ?_;rintro e b ⟨rfl,rfl⟩;go_wp2;go_ret;exact⟨rfl,a _⟩
structure Kc (ls:List Ld) (n:Int) (i:Nat):Prop where
 le:i<=eh ls
 lo:∀j x,j<i->ls[j]?=an x->x.R<n
 hi:∀j x,i<=j->ls[j]?=an x->n<=x.R
theorem IA(g z:Nat){d:Da}(n:Int){v:Nat}(f:eo w v 83 3 (Yz g (eh d) z) (eh d) (Ad lC d))(R:eh d<=600)(c:d.Pairwise (λa b=>a.R<b.R)):
 D8 166 #[Yz g (eh d) z,Zg n,.func (.func 167) #[] #[]] w λe l=>∃i:Nat,e=C5 (.tuple #[Zg i,ef (bx (∃x,d[i]?=an x/\x.R=n))])/\Kc d n i/\Zz w l:=by
 have O:=(Ac f rfl).2;have G:Hid (∀(X:Zh),Zz w X->∀k x,d[k]?=an x->ek X (Zd g (k *3))=an (Zg x.R)/\ek X (Zd g (k *3+1))=an (C4 x.sum)/\ek X (Zd g (k *3+2))=an (Zg x.bj)):=λX m k x l=>by have h:=Ah f m;have Q:=(Zw l).1;have m:∀j,j<3->ek X (Zd g (k *3+j))=(lC x)[j]?:=λj C=>(h.cellAt (k *3+j) Yv).ag (BU DW l C);exact⟨by simpa [lC]using m 0 Yq,by simpa [lC]using m 1 Yq,by simpa [lC]using m 2 Yq⟩
 have H:=Yw c;clear f c;delta D8;go_in;have N:=enters_of func167 Yr rfl;go_wp2;go_loopw [9,10] (λi j wr=>∃c f:Nat,i=Zg c/\j=Zg f/\c<=f/\f<=eh d/\Hid ((∀j x,j<c->d[j]?=an x->x.R<n)/\(∀j x,f<=j->d[j]?=an x->n<=x.R))/\Zz w wr) (λi j _=>(intOf j).toNat -(intOf i).toNat)
 case atStart=>exact⟨0,eh d,rfl,rfl,Aq _,Zx,⟨λj x h=>Yv,λj x h l=>Dl (Zw l).1⟩,Ae⟩
 obtain⟨c,f,rfl,rfl,P,A,u,l⟩:=hrel;have B:=l.size;by_cases hlt:c<f
 .have t:(c+f)/2<eh d:=Yv;have o:=Yw (Zv t);generalize d[(c+f)/2]=x at *
  obtain⟨r0,D,E⟩:=G wr l _ _ o;go_wp2_with fail;refine(Ny x n wr).ai ?_;rintro e M ⟨rfl,s⟩;have q:=l.ag (s.ai B);clear r0 D E;by_cases m:x.R<n
  .have L:bx (DX x.R n<0)=bg:=D2 ((Pj _ _).2 m);have r:=Yw m;clear m;generalize DX x.R n=cv at *
   go_wp2;refine⟨⟨(c+f)/2+1,f,Yn,rfl,Yv,A,⟨?_,u.2⟩,q⟩,Ys⟩;intro j y C p;rcases Cg j ((c+f)/2)with h|h
   .have:=pairwise_iff_getElem.1 H j ((c+f)/2) Yv t h;obtain⟨_,rfl⟩:=Zw p;have⟨_,e⟩:=Zw o;rw[e]at this;have K:=r.o;omega
   obtain rfl:j=(c+f)/2:=Yv;rw[o.o]at p;cases p;exact r.o
  have L:bx (DX x.R n<0)=bq:=by simpa using λe=>m ((Pj _ _).1 e)
  have r:=Yw (Int.not_lt.1 m);clear m;generalize DX x.R n=cv at *
  go_wp2;refine⟨⟨c,(c+f)/2,rfl,Yn,Yv,Yv,⟨u.1,?_⟩,q⟩,Ys⟩;intro j y C p;rcases Cg ((c+f)/2) j with h|h
  .have I:=(Zw p).1;have:=pairwise_iff_getElem.1 H ((c+f)/2) j t I h;obtain⟨_,rfl⟩:=Zw p;have⟨_,e⟩:=Zw o;rw[e]at this;have K:=r.o;omega
  obtain rfl:j=(c+f)/2:=Yv;rw[o.o]at p;cases p;exact r.o
 obtain rfl:c=f:=Yv;have F:Hid (Kc d n c):=⟨A,u.1,u.2⟩;by_cases hn:c<eh d
 .have o:=Yw (Zv hn);generalize d[c]=x at *
  obtain⟨r0,D,E⟩:=G wr l _ _ o;have J:(c:Int)<eh d:=Yv;go_wp2_with fail;refine(Ny x n wr).ai ?_;rintro e M ⟨rfl,s⟩;have q:=l.ag (s.ai B);clear r0 D E;have m:Hid (bx (∃y,d[c]?=an y/\y.R=n)=(DX x.R n==0)):=by
   show _=_;rw[o.o];by_cases h:x.R=n
   .rw[(Nx x.R n).2 h];simp[h]
   have D:¬DX x.R n=0:=λe=>h ((Nx x.R n).1 e);rw[show(DX x.R n==0)=bq by simpa using D];simp[h]
  generalize DX x.R n=cv at *
  go_wp2
  go_ret2
  exact⟨c,by rw[m.o];first|rfl|simp[Act.put],F,q⟩
 have m:Hid (bx (∃y,d[c]?=an y/\y.R=n)=bq):=by show _=_;rw[getElem?_eq_none Yv];simp
 have J:¬((c:Int)<eh d):=Yv;go_wp2
 go_ret2
 exact⟨c,by rw[m.o];first|rfl|simp[Act.put],F,l⟩
structure DZ (ls:List Pd) (n:Zi) (i:Nat):Prop where
 le:i<=eh ls
 lo:∀j x,j<i->ls[j]?=an x->less x.name n=bg
 hi:∀j x,i<=j->ls[j]?=an x->less x.name n=bq
theorem JN(g z:Nat){d:Db}(n:Zi){v:Nat}(f:eo w v 81 2 (Yz g (eh d) z) (eh d) (Ad pC d))(Q:eh d<=600)(c:d.Pairwise (λa b=>less a.name b.name=bg)):
 D8 187 #[Yz g (eh d) z,C4 n,.func (.func 188) #[] #[]] w λe l=>∃i:Nat,e=C5 (.tuple #[Zg i,ef (bx (∃x,d[i]?=an x/\x.name=n))])/\DZ d n i/\Zz w l:=by
 have N:=(Ac f rfl).2;have F:Hid (∀(X:Zh),Zz w X->∀k x,d[k]?=an x->ek X (Zd g (k *2))=an (C4 x.name)/\ek X (Zd g (k *2+1))=an (C4 x.sum)):=λX m k x l=>by have h:=Ah f m;have P:=(Zw l).1;have m:∀j,j<2->ek X (Zd g (k *2+j))=(pC x)[j]?:=λj C=>(h.cellAt (k *2+j) Yv).ag (BU EC l C);exact⟨by simpa [pC]using m 0 Yq,by simpa [pC]using m 1 Yq⟩
 have G:=Yw c;clear f c;delta D8;go_in;have M:=enters_of func188 Yr rfl;go_wp2;go_loopw [9,10] (λi j wr=>∃c f:Nat,i=Zg c/\j=Zg f/\c<=f/\f<=eh d/\Hid ((∀j x,j<c->d[j]?=an x->less x.name n=bg)/\(∀j x,f<=j->d[j]?=an x->less x.name n=bq))/\Zz w wr) (λi j _=>(intOf j).toNat -(intOf i).toNat)
 case atStart=>exact⟨0,eh d,rfl,rfl,Aq _,Zx,⟨λj x h=>Yv,λj x h l=>Dl (Zw l).1⟩,Ae⟩
 obtain⟨c,f,rfl,rfl,O,A,u,l⟩:=hrel;have B:=l.size;by_cases hlt:c<f
 .have t:(c+f)/2<eh d:=Yv;have o:=Yw (Zv t);generalize d[(c+f)/2]=x at *
  obtain⟨r0,D⟩:=F wr l _ _ o;go_wp2_with fail;refine(Ma x n wr).ai ?_;rintro e L ⟨rfl,s⟩;have q:=l.ag (s.ai B);clear r0 D;by_cases m:less x.name n=bg
  .have K:bx (EG x.name n<0)=bg:=D2 ((Pm _ _).2 m);have r:=Yw m;clear m;generalize EG x.name n=cv at *
   go_wp2;refine⟨⟨(c+f)/2+1,f,Yn,rfl,Yv,A,⟨?_,u.2⟩,q⟩,Ys⟩;intro j y C p;rcases Cg j ((c+f)/2)with h|h
   .have:=pairwise_iff_getElem.1 G j ((c+f)/2) Yv t h;obtain⟨_,rfl⟩:=Zw p;have⟨_,e⟩:=Zw o;rw[e]at this;exact Cx this r
   obtain rfl:j=(c+f)/2:=Yv;rw[o.o]at p;cases p;exact r.o
  have K:bx (EG x.name n<0)=bq:=by simpa using λe=>m ((Pm _ _).1 e)
  have r:Hid (less x.name n=bq):=by show _=_;simpa using m
  clear m;generalize EG x.name n=cv at *
  go_wp2;refine⟨⟨c,(c+f)/2,rfl,Yn,Yv,Yv,⟨u.1,?_⟩,q⟩,Ys⟩;intro j y C p;rcases Cg ((c+f)/2) j with h|h
  .have I:=(Zw p).1;have:=pairwise_iff_getElem.1 G ((c+f)/2) j t I h;obtain⟨_,rfl⟩:=Zw p;have⟨_,e⟩:=Zw o;rw[e]at this;have H:=r.o;cases h':less d[j].name n with
   |false=>rfl
   |true=>rw[Cx this h']at H;cases H
  obtain rfl:j=(c+f)/2:=Yv;rw[o.o]at p;cases p;exact r.o
 obtain rfl:c=f:=Yv;have E:Hid (DZ d n c):=⟨A,u.1,u.2⟩;by_cases hn:c<eh d
 .have o:=Yw (Zv hn);generalize d[c]=x at *
  obtain⟨r0,D⟩:=F wr l _ _ o;have J:(c:Int)<eh d:=Yv;go_wp2_with fail;refine(Ma x n wr).ai ?_;rintro e L ⟨rfl,s⟩;have q:=l.ag (s.ai B);clear r0 D;have m:Hid (bx (∃y,d[c]?=an y/\y.name=n)=(EG x.name n==0)):=by
   show _=_;rw[o.o];by_cases h:x.name=n
   .rw[(Kb x.name n).2 h];simp[h]
   have D:¬EG x.name n=0:=λe=>h ((Kb x.name n).1 e);rw[show(EG x.name n==0)=bq by simpa using D];simp[h]
  generalize EG x.name n=cv at *
  go_wp2
  go_ret2
  exact⟨c,by rw[m.o];first|rfl|simp[Act.put],E,q⟩
 have m:Hid (bx (∃y,d[c]?=an y/\y.name=n)=bq):=by show _=_;rw[getElem?_eq_none Yv];simp
 have J:¬((c:Int)<eh d):=Yv;go_wp2
 go_ret2
 exact⟨c,by rw[m.o];first|rfl|simp[Act.put],E,l⟩
theorem Ke{n:Nat}{c:Zj}(h:eo w b e size v n c)(f:0<n):∃g a,v=Yz g n a:=by
 rcases h.2 with⟨_,i⟩|⟨g,a,d,rfl,_⟩
 .omega
 exact⟨g,a,rfl⟩
theorem Kc.at{f:Da}(h:Kc f n i)(l:∃x∈f,x.R=n)(c:f.Pairwise (λa b=>a.R<b.R)):∃x,f[i]?=an x/\x.R=n:=by
 obtain⟨x,o,r⟩:=l;have⟨j,g⟩:=A9 o;have k:=(Zw g).1;have p:i=j:=by
  rcases Nat.lt_trichotomy i j with d|d|d
  .have q:=h.hi i f[i] (Zx) (Zv Yv);obtain⟨m,_,e⟩:=pairwise_iff_getElem.1 c i j Yv k d,Zw g;rw[e]at m;omega
  .exact d
  have:=h.lo j x d g;omega
 exact gA
theorem DZ.at{f:Db}{n:Zi}(h:DZ f n i)(p:∃x∈f,x.name=n)(c:f.Pairwise (λa b=>less a.name b.name=bg)):∃x,f[i]?=an x/\x.name=n:=by
 obtain⟨x,q,m⟩:=p;have⟨j,g⟩:=A9 q;have o:=(Zw g).1;have r:i=j:=by
  rcases Nat.lt_trichotomy i j with d|d|d
  .have k:=h.hi i f[i] (Zx) (Zv Yv);obtain⟨l,_,e⟩:=pairwise_iff_getElem.1 c i j Yv o d,Zw g;rw[e,m]at l;rw[l]at k;cases k
  .exact d
  have:=h.lo j x d g;rw[m,Ct]at this;cases this
 exact gA
def BD(ls:List Ld)(n:Int):List Ld:=ls.filter (fun x=> !bx (x.R=n))
def Bh(ps:List Pd)(n:Zi):List Pd:=ps.filter (fun x=> !bx (x.name=n))
theorem Ig{A:Type}{q:A->Bool}:∀{xs:List A} {i:Nat} {x:A},xs[i]?=an x->q x=bq->(∀j y,xs[j]?=an y->j≠i->q y=bg)->xs.filter q=xs.eraseIdx i
 |[],i,x,hx,_,_=>by simp at hx
 |y::ys,0,x,hx,hq,ho=>by
  simp only[getElem?_cons_zero,Option.some.injEq]at hx;subst hx;rw[filter_cons,hq,eraseIdx_cons_zero];simp only[Bool.false_eq_true,if_false];exact filter_eq_self.2 (λz b=>by
   have⟨j,a⟩:=A9 b;exact ho (j+1) z (D2 a) Yv)
 |y::ys,i+1,x,hx,hq,ho=>by have b:=ho 0 y Yu Yv;rw[filter_cons,b,eraseIdx_cons_succ];simp only[if_true];rw[Ig (i:=i) (x:=x) gA hq (λj z a c=>ho (j+1) z Yt Yv)]
theorem QJ{d:Da}{x:Ld}(g:d[i]?=an x)(p:x.R=n)(c:d.Pairwise (λa b=>a.R<b.R)):BD d n=d.eraseIdx i:=by
 refine Ig g Yt (λj y m o=> ?_);obtain⟨e,f,⟨_,k⟩,_,l⟩:=(Zw g).1,(Zw m).1,Zw g,Zw m;rcases Nat.lt_or_gt_of_ne o with h|h
 .have:=pairwise_iff_getElem.1 c j i f e h;rw[k,l]at this;simp;omega
 have:=pairwise_iff_getElem.1 c i j e f h;rw[k,l]at this;simp;omega
theorem Po{d:Db}{n:Zi}(l:d[i]?=an x)(p:x.name=n)(c:d.Pairwise (λa b=>less a.name b.name=bg)):Bh d n=d.eraseIdx i:=by
 refine Ig l Yt (λj y f q=> ?_);obtain⟨g,k,⟨_,m⟩,_,o⟩:=(Zw l).1,(Zw f).1,Zw l,Zw f;have f:y.name≠n:=λe=>by
  rcases Nat.lt_or_gt_of_ne q with h|h
  .have:=pairwise_iff_getElem.1 c j i k g h;rw[m,o,e,p,Ct]at this;cases this
  have:=pairwise_iff_getElem.1 c i j g k h;rw[m,o,e,p,Ct]at this;cases this
 simpa using f
theorem We{j d m:Nat}{O P L:D4}{G v k c:Int}{E:C9}{F:Db}{f:Da}(n:Int){w:Zh}(h:DU w j d m O P L G v k c E F f)(T:eh f<=200)(l:f.Pairwise (λa b=>a.R<b.R))(p:∃x∈f,x.R=n):
 D8 138 #[ee (an ⟨d,0,ba⟩),Zg n] w λe o=>e=C5 (.tuple #[])/\∃D,DU o j d m O P D G v k c E F (BD f n)/\Tn (d::(ej L).toList) w o:=by
 have z:0<eh f:=by obtain⟨x,S,_⟩:=p;exact length_pos_of_mem S
 have⟨g,o,M⟩:=Ke h.U.dh z;subst M;have H:Hid _:=h;have s:Hid _:=l;have A:Hid _:=p;have I:Hid _:=IA g o n h.U.dh D9 l;obtain⟨Q,_⟩:=h.U.box 7 _ rfl;clear h l p;delta D8;go_in;go_wp2_with fail;refine I.Aj ?_;rintro e J ⟨i,rfl,C,t⟩;have⟨x,r,u⟩:=C.at A s;have l:bx (∃x,f[i]?=an x/\x.R=n)=bg:=by simpa using ⟨x,r,u⟩
 have B:=(Zw r).1;have N:Hid _:=QJ r u s;have q:=H.A t;have p:Hid _:=q;have K:Hid _:=t;have y:Hid _:=MP (eb (dp ⟨rfl,rfl,rfl,rfl⟩)) DW VP g o i f q.U.dh D9 B;obtain⟨R,_⟩:=q.U.box 7 _ rfl;rw[l];clear l r u C q t H I A s Q;go_wp2_with fail;refine y.Aj ?_;rintro e s ⟨rfl,u,q⟩;have t:∀b,ej (C3 (an ⟨g,0,ba⟩) (eh f -1) o)=an b->b≠d:=λb r=>((Dv p.U.ap).2.2.2 b r).1;have l:=Aa.same p.U.box (q.block d p.U.box.lt (λe=>t g rfl (A8 e).symm));obtain⟨H,I⟩:=l 7 _ rfl;have A:∃D,DU (ev s (Zd d 7) (C3 (an ⟨g,0,ba⟩) (eh f -1) o)) j d m O P D G v k c E F (BD f n)/\Tn (d::(ej (C2 (an ⟨g,0,ba⟩) f o)).toList) w (ev s (Zd d 7) (C3 (an ⟨g,0,ba⟩) (eh f -1) o)):=by
  have C:Tn (d::(ej (C2 (an ⟨g,0,ba⟩) f o)).toList) J (ev s (Zd d 7) (C3 (an ⟨g,0,ba⟩) (eh f -1) o)):=
   ((Du q).ai (by intro b r;simp[ownBlock]at r |-;exact eb r)).ag ((AX s d 7 _).ai E7)
  refine⟨_,p.ix C (l.set 7 _) ?_ (dp rfl),(Tn.of K).ag C⟩;rw[N.o,length_eraseIdx,if_pos B];exact BM u t 7 _
 have D:Hid _:=A;clear A u q l R;go_wp2;go_end0;exact⟨rfl,D⟩
theorem Kf(g o:Nat){z t j:Int}{v:C9}{f:Db}{y:Da}(n:Zi)(h:DU w k d m O (Yz g (eh f) o) L z t l j v f y)(A:eh f<=200)(c:f.Pairwise (λa b=>less a.name b.name=bg)):
 D8 163 #[Yy d,C4 n] w λe p=>∃i:Nat,e=C5 (.tuple #[Zg i,ef (bx (∃x,f[i]?=an x/\x.name=n))])/\DZ f n i/\Zz w p:=by
 obtain⟨u,c6,_⟩:=Yw (JN g o n h.U.de Yv c),h.U.box 6 _ rfl;clear h c;delta D8;go_in;go_wp2_with fail;refine u.Aj ?_;rintro e B ⟨i,rfl,s,r⟩;have⟨p,c⟩:∃p,bx (∃x,f[i]?=an x/\x.name=n)=p:=⟨_,rfl⟩;have q:=Yw c;rw[c];clear c;go_wp2
 go_ret2
 exact⟨i,by rw[q.o];rfl,s,r⟩
theorem Ub{k d m:Nat}{O P L:D4}{A s f c:Int}{y:C9}{j:Db}{z:Da}(n:Zi){w:Zh}(h:DU w k d m O P L A s f c y j z)(R:eh j<=200)(l:j.Pairwise (λa b=>less a.name b.name=bg))(p:∃x∈j,x.name=n):
 D8 137 #[ee (an ⟨d,0,ba⟩),C4 n] w λe o=>e=C5 (.tuple #[])/\∃G,DU o k d m O G L A s f c y (Bh j n) z/\Tn (d::(ej P).toList) w o:=by
 have C:0<eh j:=by obtain⟨x,S,_⟩:=p;exact length_pos_of_mem S
 have⟨g,o,M⟩:=Ke h.U.de C;subst M;have H:Hid _:=h;have t:Hid _:=l;have D:Hid _:=p;have I:Hid _:=Kf g o n h R l;clear h l p;delta D8;go_in;go_wp2_with fail;refine I.Aj ?_;rintro e J ⟨i,rfl,F,u⟩;have⟨x,r,v⟩:=F.at D t;have l:bx (∃x,j[i]?=an x/\x.name=n)=bg:=by simpa using ⟨x,r,v⟩
 have E:=(Zw r).1;have N:Hid _:=Po r v t;have q:=H.A u;have p:Hid _:=q;have K:Hid _:=u;have B:Hid _:=MP (dp ⟨rfl,rfl,rfl,rfl⟩) EC Sj g o i j q.U.de D9 E;obtain⟨Q,_⟩:=q.U.box 6 _ rfl;rw[l];clear l r v F q u H I D t;go_wp2_with fail;refine B.Aj ?_;rintro e t ⟨rfl,v,q⟩;have u:∀b,ej (C3 (an ⟨g,0,ba⟩) (eh j -1) o)=an b->b≠d:=λb r=>((Dv p.U.ap).2.2.1 b r).1;have l:=Aa.same p.U.box (q.block d p.U.box.lt (λe=>u g rfl (A8 e).symm));obtain⟨H,I⟩:=l 6 _ rfl;have D:∃G,DU (ev t (Zd d 6) (C3 (an ⟨g,0,ba⟩) (eh j -1) o)) k d m O G L A s f c y (Bh j n) z/\Tn (d::(ej (C2 (an ⟨g,0,ba⟩) j o)).toList) w (ev t (Zd d 6) (C3 (an ⟨g,0,ba⟩) (eh j -1) o)):=by
  have F:Tn (d::(ej (C2 (an ⟨g,0,ba⟩) j o)).toList) J (ev t (Zd d 6) (C3 (an ⟨g,0,ba⟩) (eh j -1) o)):=
   ((Du q).ai (by intro b r;simp[ownBlock]at r |-;exact eb r)).ag ((AX t d 6 _).ai E7)
  refine⟨_,p.iy F (l.set 6 _) ?_ (dp rfl),(Tn.of K).ag F⟩;rw[N.o,length_eraseIdx,if_pos E];exact BM v u 6 _
 have G:Hid _:=D;clear D v q l Q;go_wp2;go_end0;exact⟨rfl,G⟩
def AT(ls:List Ld)(n:Int):List Ld:=ls.filter (fun x=> !bx (x.bj<=n))
theorem Nz(x:Ld)(b d:Nat)(n:Int)(w:Zh)(f:ek w (Zd b 0)=an (Yy d))(g:ek w (Zd d 2)=an (Zg n)):
 D8 171 #[ct #[Zg x.R,C4 x.sum,Zg x.bj],Yy b] w λe a=>e=C5 (ef (bx (x.bj<=n)))/\Zz w a:=by
 have⟨W,a⟩:=D6 w #[Zg x.R,C4 x.sum,Zg x.bj] 83;have c:=(Ax a).1;have i:ek W (Zd (w.1.size) 2)=an (Zg x.bj):=by rw[a];simp[go_sem]
 obtain⟨j,k,h⟩:=(c.cell (p:=⟨b,0,ba⟩) (Bf w _ f)).ag f,(c.cell (p:=⟨d,2,ba⟩) (Bf w _ g)).ag g,Yw a;clear a f g;delta D8;go_in;go_upto_region 1 with fail;rw[<-h.o];have f:=Yw c;cases hbb:bx (x.bj<=n)
 all_goals
  have a:=Yw hbb;go_region_with fail
  all_goals
   go_wp2;go_ret;exact⟨by rw[a.o];rfl,f.drew⟩
def ZI(ls:List Ld)(n r:Int):Prop:=(r= -1/\∀x∈ls,n<x.bj)\/∃(i:Nat) (x:Ld),r=i/\ls[i]?=an x/\x.bj<=n/\∀j y,j<i->ls[j]?=an y->n<y.bj
theorem JO(a:Zk)(t b d:Nat)(n:Int)(f:Da)(w:Zh)(l:AR w w.1.size a f)(O:eh f<=1048576)(o:ek w (Zd b 0)=an (Yy d))(s:ek w (Zd d 2)=an (Zg n)):
 D8 193 #[C3 a (eh f) t,.func (.func 171) #[] #[Yy b]] w λe c=>∃r:Int,e=C5 (Zg r)/\ZI f n r/\Zz w c:=by
 have v:=Bf w _ o;have A:=Bf w _ s;delta D8;go_in;go_wp2;go_loopw [8] (λi wr=>∃k:Nat,k<=eh f/\i=Zg k/\Hid (∀j x,j<k->f[j]?=an x->n<x.bj)/\Zz w wr) (λi _=>eh f -(intOf i).toNat)
 case atStart=>exact⟨0,Aq _,rfl,(λj x h=>Yv),Ae⟩
 obtain⟨k,N,rfl,g,c⟩:=hrel;have C:=c.size;by_cases hlt:k<eh f
 .obtain⟨I,H,F,M,m⟩:=(l.A c).at hlt;subst F;have q:=Yw (Zv hlt);obtain⟨⟨J,K,L⟩,z,B⟩:=m k _ q,(c.cell (p:=⟨b,0,ba⟩) v).ag o,(c.cell (p:=⟨d,2,ba⟩) A).ag s;clear m l;generalize f[k]=x at *
  go_wp2_with fail;refine(Nz x b d n wr z B).ai ?_;rintro e P ⟨rfl,u⟩;have m:=c.ag (u.ai C);by_cases h:x.bj<=n
  .have l:bx (x.bj<=n)=bg:=Yt;have E:=Yw h;rw[l];clear h l;go_wp2;go_ret;exact⟨_,rfl,eb ⟨k,x,rfl,q,E,g⟩,m⟩
  have D:Hid (∀j y,j<k+1->f[j]?=an y->n<y.bj):=gH;have l:bx (x.bj<=n)=bq:=Yt;rw[l];clear h l;go_wp2;exact⟨⟨k+1,Yv,Yn,D,m⟩,Ys⟩
 go_wp2;go_ret;refine⟨_,rfl,dp ⟨rfl,λx G=> ?_⟩,c⟩;obtain⟨j,l,rfl⟩:=getElem_of_mem G;exact g j _ Yv (Zv l)
theorem Pp:∀{zs:Db} {i:Nat},i<eh zs->∀y:Pd,((Ad pC zs).set (i *2) (C4 y.name)).set (i *2+1) (C4 y.sum)=Ad pC (zs.set i y)
 |[],i,h,_=>by simp at h
 |z::zs,0,h,y=>by simp[Ad,pC]
 |z::zs,i+1,h,y=>by
  have b:=Pp (zs:=zs) (i:=i) gA y;have e:Ad pC (z::zs)=pC z++Ad pC zs:=by simp[Ad]
  have a:Ad pC ((z::zs).set (i+1) y)=pC z++Ad pC (zs.set i y):=by simp[Ad]
  rw[e,a,<-b,show(i+1) *2=eh (pC z)+i *2 by rw[EC];omega];rw[set_append_right _ _ Yv,Nat.add_sub_cancel_left,show eh (pC z)+i *2+1=eh (pC z)+(i *2+1) by omega,set_append_right _ _ Yv,Nat.add_sub_cancel_left]
theorem Pq:∀{zs:Da} {i:Nat},i<eh zs->∀y:Ld,(((Ad lC zs).set (i *3) (Zg y.R)).set (i *3+1) (C4 y.sum)).set (i *3+2) (Zg y.bj)=Ad lC (zs.set i y)
 |[],i,h,_=>by simp at h
 |z::zs,0,h,y=>by simp[Ad,lC]
 |z::zs,i+1,h,y=>by
  have b:=Pq (zs:=zs) (i:=i) gA y;have e:Ad lC (z::zs)=lC z++Ad lC zs:=by simp[Ad]
  have a:Ad lC ((z::zs).set (i+1) y)=lC z++Ad lC (zs.set i y):=by simp[Ad]
  rw[e,a,<-b,show(i+1) *3=eh (lC z)+i *3 by rw[DW];omega];rw[set_append_right _ _ Yv,Nat.add_sub_cancel_left,show eh (lC z)+i *3+1=eh (lC z)+(i *3+1) by omega,set_append_right _ _ Yv,Nat.add_sub_cancel_left,show eh (lC z)+i *3+2=eh (lC z)+(i *3+2) by omega,set_append_right _ _ Yv,Nat.add_sub_cancel_left]
theorem Uc(k:Nat):∀v∈(Builtin.zeroCells #[Ze,Zc,Ze] k).toList,v.oneCell'=bg:=by
 intro v a;simp only[Builtin.zeroCells,Array.toList_map,mem_map]at a;obtain⟨i,_,rfl⟩:=a;have b:i%3=0\/i%3=1\/i%3=2:=Yv;show(#[int .i64 0,Zc,Ze][i%3]!).oneCell'=bg;rcases b with h|h|h<;>rw[h]<;>rfl
theorem Ly(w:Zh)(g:TypeId)(b o k c:Nat)(l:0<k)(h:∀j,j<k *3->(ek w (Zd b (o+j))).isSome=bg)(i:∀j,j<k *3->el w ⟨b,o+j,ba⟩=bq):
 (Builtin.clear_ #[28] g #[C3 (an ⟨b,o,ba⟩) k c]).run prog w=.ok (.tuple #[]) (w.setCells b o (Builtin.zeroCells #[Ze,Zc,Ze] k).toList):=by
 have m:eh (Builtin.zeroCells #[Ze,Zc,Ze] k).toList=k *3:=by rw[Array.length_toList,size_zeroCells];rfl
 have a:=run_storeCells_cells (P:=prog) b o (Builtin.zeroCells #[Ze,Zc,Ze] k).toList 0 w gA gA (Uc k);simp only[Nat.add_zero]at a;have f:=Ua;have e:(agg #[Ze,Zc,Ze]).cells= #[Ze,Zc,Ze]:=rfl;obtain⟨d,rfl⟩:∃d,k=d+1:=⟨k -1,Yv⟩;simp[Builtin.clear_,run_underlying underlying28,f,e,a]
theorem Wf{a n:Nat}{c:Da}(h:eo w a 83 3 (Yz g n b) n (Ad lC c))(j:i<eh c)(y:Ld):eo (ev (ev (ev w (Zd g (i *3)) (Zg y.R)) (Zd g (i *3+1)) (C4 y.sum)) (Zd g (i *3+2)) (Zg y.bj)) a 83 3 (Yz g n b) n (Ad lC (c.set i y)):=by have e:=(h.stored (i *3) (Zg y.R)).1;have f:=(e.stored (i *3+1) (C4 y.sum)).1;have d:=(f.stored (i *3+2) (Zg y.bj)).1;rw[Pq j y]at d;exact d
structure FX (ls cur:List Ld) (n:Int) (i j:Nat):Prop where
 len:eh cur=eh ls
 kept:cur.take i=AT (ls.take j) n
 rest:cur.drop j=ls.drop j
 lt:i<j
 le:j<=eh ls
theorem FX.start{a:Da}{x:Ld}(c:a[i]?=an x)(k:x.bj<=n)(h:∀j y,j<i->a[j]?=an y->n<y.bj):FX a a n i (i+1):=by
 have d:=(Zw c).1;have⟨_,e⟩:=Zw c;refine⟨rfl,?_,rfl,Yv,Yv⟩;unfold AT;rw[Zu d,filter_append,e];have g:(a.take i).filter (λx=> !bx (x.bj<=n))=a.take i:=filter_eq_self.2 (λy f=>by
  have⟨j,b⟩:=A9 f;have f:=(Zw b).1;rw[C0]at f;have:=h j y Yv (by rw[getElem?_take_of_lt Yv]at b;exact b);simp;omega)
 rw[g];simp[k]
theorem FX.at{b a:Da}(h:FX b a n i j)(c:j<eh b):a[j]?=an b[j]:=by have:=congrArg (λl=>l[0]?) h.rest;simp only[getElem?_drop,Nat.add_zero]at this;rw[this,Zv c]
theorem FX.skip{a b:Da}(h:FX a b n i j)(c:j<eh a)(d:a[j].bj<=n):FX a b n i (j+1):=by
 refine⟨h.len,?_,?_,Dl h.lt,Yv⟩
 .rw[h.kept];unfold AT;rw[Zu c,filter_append];simp[d]
 have:=congrArg (List.drop 1) h.rest;rw[drop_drop,drop_drop]at this;exact this
theorem FX.move{a b:Da}(h:FX a b n i j)(d:j<eh a)(g:n<a[j].bj):FX a (b.set i a[j]) n (i+1) (j+1):=by
 have f:=h.lt;have hlen:=h.len;have e:i<eh b:=Yv;refine⟨by rw[length_set];exact hlen,?_,?_,Yv,Yv⟩
 .have c:¬a[j].bj<=n:=Yv;rw[Zu Yt,take_set_of_le (Zx),h.kept,getElem_set_self];unfold AT;rw[Zu d,filter_append];simp[c]
 have:=congrArg (List.drop 1) h.rest;rw[drop_drop,drop_drop]at this;rw[drop_set_of_lt Yv];exact this
theorem FX.done{a b:Da}(h:FX a b n i (eh a)):b.take i=AT a n/\eh (AT a n)=i:=by have c:=h.kept;rw[Zt (Zx)]at c;refine⟨c,?_⟩;rw[<-c,C0];have:=h.lt;have:=h.len;omega
theorem MQ(g p:Nat)(b d:Nat)(n:Int)(a:Da)(R:eo w m 83 3 (Yz g (eh a) p) (eh a) (Ad lC a))(hl:eh a<=200)(T:ek w (Zd b 0)=an (Yy d))(U:ek w (Zd d 2)=an (Zg n))(Z:b≠g)(zB:d≠g):
 D8 170 #[Yz g (eh a) p,.func (.func 171) #[] #[Yy b]] w λe c=>e=C5 (Yz g (eh (AT a n)) p)/\eo c m 83 3 (Yz g (eh (AT a n)) p) (eh (AT a n)) (Ad lC (AT a n))/\ep w c (an g):=by
 have E:eh a<=p/\p<=ew:=by
  rcases R.2 with⟨e,_⟩|⟨g',zF,f,e,hb,hg,h1,h2,h3,h4⟩
  .cases e
  cases e;exact⟨h1,h2⟩
 obtain⟨zI,zA⟩:=E;unfold ew at zA;have HX:=Yw (JO (an ⟨g,0,ba⟩) p b d n a w (AR.own R) Yv T U);have HO:=Yw R;have HC:Hid (∀X,ep w X (an g)->ek X (Zd b 0)=an (Yy d)/\ek X (Zd d 2)=an (Zg n)):=λX c=>⟨c.cell T (λe=>Z (A8 e)),c.cell U (λe=>zB (A8 e))⟩;delta D8;go_in;go_wp2_with fail;refine HX.Aj ?_;rintro e V ⟨r,rfl,hr,K⟩;have H:Hid (eo V m 83 3 (Yz g (eh a) p) (eh a) (Ad lC a)):=Ah HO K;have G:Hid (ep w V (an g)):=Af _ K;rcases hr with⟨rfl,D⟩|⟨i,x,rfl,zC,zE,X⟩
 .have HE:Hid (AT a n=a):=filter_eq_self.2 (λy c=>by have:=D y c;simp;omega);go_wp2;go_ret;rw[HE.o];exact⟨rfl,H,G⟩
 have HM:Hid (FX a a n i (i+1)):=FX.start zC zE X;have zJ:((i:Int)== -1)=bq:=Yu;have N:i<eh a:=gG;go_wp2;go_loopw [5,6] (λq s wr=>∃(c l:Nat) (f:Da),q=Zg c/\s=Zg l/\c<l/\l<=eh a/\Hid (FX a f n c l/\eo wr m 83 3 (Yz g (eh a) p) (eh a) (Ad lC f)/\ep w wr (an g))) (λ_ j _=>eh a -(intOf j).toNat)
 case atStart=>exact⟨i,i+1,a,rfl,Yn,Yv,Yv,HM,H,G⟩
 obtain⟨c,l,f,rfl,rfl,zK,zM,q⟩:=hrel;by_cases hlt:l<eh a
 .have O:Hid (f[l]?=an a[l]):=q.1.at hlt;have zH:Hid (a[l].bj<=n->FX a f n c (l+1)):=λh=>q.1.skip hlt h;have zG:Hid (n<a[l].bj->FX a (f.set c a[l]) n (c+1) (l+1)):=λh=>q.1.move hlt h;have L:eh f=eh a:=q.1.len;generalize a[l]=x at *
  have s:∀k,k<3->ek wr (Zd g (l *3+k))=(lC x)[k]?:=λk C=>(q.2.1.cellAt (l *3+k) Yv).ag (BU DW O C);have c0:ek wr (Zd g (l *3))=an (Zg x.R):=by simpa [lC]using s 0 Yq
  have c1:ek wr (Zd g (l *3+1))=an (C4 x.sum):=by simpa [lC]using s 1 Yq
  have c2:ek wr (Zd g (l *3+2))=an (Zg x.bj):=by simpa [lC]using s 2 Yq
  have⟨W,t⟩:=D6 wr #[Zg x.R,C4 x.sum,Zg x.bj] 83;have B:=(Ax t).1;have F:=(Ax t).2.2;have S:Hid (Aa W _ _):=(Ax t).2.2;have u:ep w W (an g):=Ai q.2.2 (Af _ B);have I:Hid (eo W m 83 3 (Yz g (eh a) p) (eh a) (Ad lC f)/\ep w W (an g)):=⟨Ah q.2.1 B,u⟩;have⟨z,A⟩:=HC W u;have y:=Nz x b d n W z A;have HW:=Yw t;clear t s B F u z A q;go_upto_region 8 with fail;rw[<-HW.o];obtain⟨z0,z1,z2⟩:=Aa.c3 S 0 1 2;go_wp2_with fail;refine y.ai ?_;rintro e u ⟨rfl,z⟩;have s:Hid (eo u m 83 3 (Yz g (eh a) p) (eh a) (Ad lC f)/\ep w u (an g)):=⟨Ah I.1 z,Ai I.2 (Af _ z)⟩;have Y:=Aa.A S z;by_cases ht:x.bj<=n
  .have Q:bx (x.bj<=n)=bg:=Yt;have P:Hid (FX a f n c (l+1)):=gA;rw[Q];go_wp2;exact⟨⟨c,l+1,f,rfl,Yn,Yv,Yv,P,s.1,s.2⟩,Ys⟩
  have Q:bx (x.bj<=n)=bq:=Yt;have P:Hid (FX a (f.set c x) n (c+1) (l+1)):=gA;have N:c<eh f:=Yv;have F:=Wf s.1 N x;have A:∀o,el u ⟨g,o,ba⟩=bq:=λo=>s.1.frozenAt o;have B:∀k,k<3->∃v,ek u (Zd g (c *3+k))=an v:=λk C=>⟨_,(s.1.cellAt (c *3+k) Yv).ag (Zv (by rw[BY DW];omega))⟩;have⟨v0,v⟩:=B 0 Yq;have⟨v1,s1⟩:=B 1 Yq;have⟨v2,s2⟩:=B 2 Yq;rw[Nat.add_zero]at v;obtain⟨q0,q1,q2⟩:=A (c *3),A (c *3+1),A (c *3+2);have t:=Yw (Zn F (Ai s.2 (Ai (Ai (As u g (c *3) (Zg x.R)) (As _ g (c *3+1) (C4 x.sum))) (As _ g (c *3+2) (Zg x.bj)))));obtain⟨z0,z1,z2⟩:=Aa.c3 Y 0 1 2;rw[Q];go_wp2;exact⟨⟨c+1,l+1,f.set c x,Yn,Yn,Yv,Yv,P,t.1,t.2⟩,Ys⟩
 obtain rfl:l=eh a:=Yv;have⟨h,zN⟩:=q.1.done;have L:eh f=eh a:=q.1.len;have o:Hid (eh (AT a n)=c/\f.take c=AT a n):=gH;have hO:=q.2.1;have O:Hid (ep w wr (an g)):=gH;have hcut:eo wr m 83 3 (Yz g c p) c (Ad lC (AT a n)):=by rw[<-h];have J:=hO;rw[<-L]at J;exact Pf DW J c Yv
 have M:∀j,j<(eh a -c) *3->(ek wr (Zd g (c *3+j))).isSome=bg/\el wr ⟨g,c *3+j,ba⟩=bq:=λj C=>by refine⟨?_,hO.frozenAt _⟩;rw[hO.cellAt (c *3+j) Yv,Zv (by rw[BY DW];omega)];rfl
 have k:=Ly wr 0 g (c *3) (eh a -c) (p -c) Yv (λj C=>(M j C).1) (λj C=>(M j C).2);have C:=Yw hcut;go_wp2;go_ret;rw[o.1];exact⟨rfl,Lw _ _ _ C (Zx),Ai O (Es g _ _ _)⟩
theorem MR(a:Zk)(c b d:Nat)(n:Int)(w:Zh)(j:ek w (Zd b 0)=an (Yy d))(k:ek w (Zd d 2)=an (Zg n)):
 D8 170 #[C3 a 0 c,.func (.func 171) #[] #[Yy b]] w λe f=>e=C5 (C3 a 0 c)/\Zz w f:=by
 have h:=Yw (JO a c b d n [] w (dp rfl) Yu j k);delta D8;go_in;go_wp2_with fail;refine h.Aj ?_;rintro e m ⟨r,rfl,l,f⟩;rcases l with⟨rfl,_⟩|⟨i,x,_,g,_⟩
 .go_wp2;go_ret;exact⟨rfl,f⟩
 simp at g
theorem QK(b d:Nat)(n:Int)(f:Da)(l:eo w h 83 3 L (eh f) (Ad lC f))(t:eh f<=200)(j:ek w (Zd b 0)=an (Yy d))(k:ek w (Zd d 2)=an (Zg n))(o:ej L≠an b)(p:ej L≠an d):
 D8 170 #[L,.func (.func 171) #[] #[Yy b]] w λe i=>∃a c,e=C5 (C3 a (eh (AT f n)) c)/\eo i h 83 3 (C3 a (eh (AT f n)) c) (eh (AT f n)) (Ad lC (AT f n))/\ep w i (ej L)/\ej (C3 a (eh (AT f n)) c)=ej L:=by
 rcases l.2 with⟨rfl,u⟩|⟨g,m,v,rfl,_⟩
 .have:f=[]:=B8 u;subst this;refine(MR ba 0 b d n w j k).ai ?_;rintro e i ⟨rfl,s⟩;exact⟨ba,0,rfl,ownsRow_nil _ _ _ _,Af _ s,rfl⟩
 refine(MQ g m b d n f l t j k (λe=>o I4) (λe=>p I4)).ai ?_;rintro e i ⟨rfl,q,r⟩;exact⟨_,_,rfl,q,r,rfl⟩
theorem Wg{o d m:Nat}{O P L:D4}{q j l i:Int}{z:List Kd}{A:List Pd}{k:List Ld}(f:Int){w:Zh}(h:DU w o d m O P L q j l i z A k)(hl:eh k<=200)(S:0<=j)(T:0<=f)(hs:j+f<=1000000000):
 D8 139 #[ee (an ⟨d,0,ba⟩),.int .i64 f] w λe s=>e=.returned (.tuple #[])/\∃E,DU s o d m O P E q (j+f) l i z A (AT k (j+f))/\Tn (d::(ej L).toList) w s:=by
 have⟨p,n,Q⟩:=Au h.U.dh;subst Q;obtain⟨zA,W,x⟩:=h.U.box.lt,D6 w #[ee (an ⟨d,0,ba⟩)] 62;have F:=(Ax x).1;obtain⟨K,r,X,y⟩:=(Ax x).2.2,h.A F,Ag (ev W ⟨d,2,ba⟩ (.int .i64 (j+f)));have G:Tn [d] W X:=by rw[y];exact AX _ _ _ _
 have v:Aa X d [.int .i64 q,.map (an m),.int .i64 (j+f),.int .i64 l,.int .i64 i,O,P,cr p (eh k) n]:=by rw[y];exact r.U.box.set 2 _
 have I:Aa X w.1.size [ee (an ⟨d,0,ba⟩)]:=gC;have R:∀g,ej (slice p (eh k) n)=an g->g≠d:=λg t=>((Dv h.U.ap).2.2.2 g t).1;have D:eo X o 83 3 (cr p (eh k) n) (eh k) (Ad lC k):=Ar r.U.dh (λg t=>G.block g (Ac r.U.dh t).2 gA);have B:ej (slice p (eh k) n)≠an w.1.size:=λe=>Dl (Ac h.U.dh e).2;have C:ej (slice p (eh k) n)≠an d:=gG;have V:Hid (∀Y,Zz X Y->D8 170 #[cr p (eh k) n,.func (.func 171) #[] #[ee (an ⟨w.1.size,0,ba⟩)]] Y λe s=>∃a c,e=.returned (cr a (eh (AT k (j+f))) c)/\eo s o 83 3 (cr a (eh (AT k (j+f))) c) (eh (AT k (j+f))) (Ad lC (AT k (j+f)))/\ep Y s (ej (slice p (eh k) n))/\ej (slice a (eh (AT k (j+f))) c)=ej (slice p (eh k) n)):=λY s=>
  QK w.1.size d (j+f) k (Ah D s) hl ((Aa.A I s) 0 _ rfl).1 ((v.A s) 2 _ rfl).1 B C
 have U:Hid (DU W o d m O P (cr p (eh k) n) q j l i z A k):=r;have M:Hid (Zz w W):=F;have N:Hid (Tn [d] W X):=G;have t:Hid (Aa X d [.int .i64 q,.map (an m),.int .i64 (j+f),.int .i64 l,.int .i64 i,O,P,cr p (eh k) n]):=v;have u:Hid (Aa X w.1.size [ee (an ⟨d,0,ba⟩)]):=I;have s:Hid _:=x;have J:Hid _:=y;obtain⟨⟨H,_⟩,Z,a⟩:=K 0 _ rfl,r.U.box 2 _ rfl;have g:IntKind.i64.wrap (j+f)=j+f:=Ie S Yv T Yv;have c:¬(1000000000<j+f):=Yv;clear h F K r y x G v I D;delta D8;go_in;go_upto_region 1 with fail;rw[<-s.o];clear s;go_upto_region 4 with fail;rw[<-J.o];clear J H Z a;have I:bs X.1.size X X.drew:=gB;obtain⟨⟨H,_⟩,Z,_⟩:=u 0 _ rfl,t 7 _ rfl;go_region_with (go_at_call 170;refine Calls.mono (V X.drew I) ?_;rintro e s ⟨F,G,rfl,x,r,y⟩;have v:Aa s d [.int .i64 q,.map (an m),.int .i64 (j+f),.int .i64 l,.int .i64 i,O,P,cr p (eh k) n]:=Aa.same t (r.block d t.lt (λe=>C e.symm));have D:Aa s w.1.size [ee (an ⟨d,0,ba⟩)]:=Aa.same u (r.block w.1.size u.lt (λe=>B e.symm));obtain⟨g7,k7⟩:=v 7 _ rfl;obtain⟨y0,_⟩:=D 0 _ rfl)
 all_goals
  have J:∃E,DU (ev s ⟨d,7,ba⟩ (cr F (eh (AT k (j+f))) G)) o d m O P E q (j+f) l i z A (AT k (j+f))/\Tn (d::(ej (slice p (eh k) n)).toList) w (ev s ⟨d,7,ba⟩ (cr F (eh (AT k (j+f))) G)):=by
   have K:Tn (d::(ej (slice p (eh k) n)).toList) W (ev s ⟨d,7,ba⟩ (cr F (eh (AT k (j+f))) G)):=
    ((N.ai Yu).ag ((Tn.of I).ag ((Du r).ai (λb E=>mem_cons_of_mem _ E)))).ag ((AX s d 7 _).ai Yu)
   exact⟨_,U.ix K (v.set 7 _) (BM x (λb E=>R b (y▸E)) 7 _) (dp y),(Tn.of M).ag K⟩
  have E:Hid _:=J;clear J x r v D H Z;go_wp2;go_end0;exact⟨rfl,E⟩
theorem KF{j b:Int}{c:C9}{x:Da}(s:Zi)(i:Dr w g d m O P L j r b a c z x)(q:∀k∈c,(k.sum.size:Int)=j)(A:¬AA c s):
 D8 158 #[Yy d,C4 s] w λe h=>e=.panicked [{v:=Cq 2 ⟨#[]⟩ ⟨#[]⟩,recovered:=bq}]/\Zz w h:=by
 have⟨n,f,D,o,l⟩:=i.map;have⟨y,p,h⟩:=JX f s o l.holds q;have u:y=bq:=gA;subst u;obtain⟨B,C⟩:=Aa.c2 i.box 0 1;have t:=Yw (h w Ae);clear i o l p h;delta D8;go_in;go_wp2_with fail;refine t.Aj ?_;rintro e i ⟨rfl,h⟩;go_wp2;exact⟨rfl,rfl,h⟩
theorem Pr{c:Nat}{b:Int}{g:C9}{p:Db}{o:Da}(s:Zi)(f:Int)(h:DU w c d m O P L n l b a g p o)(i:∀k∈g,(k.sum.size:Int)=n)(j:¬AA g s):
 D8 135 #[Yy d,C4 s,Zg f] w λe q=>e=.panicked [{v:=Cq 2 ⟨#[]⟩ ⟨#[]⟩,recovered:=bq}]/\Zz w q:=by
 have HN:=Yw (KF s h.U i j);clear h i j;delta D8;go_in;go_wp2_with fail;refine HN.Aj ?_;rintro e j ⟨rfl,i⟩;go_wp2;exact⟨rfl,rfl,i⟩
theorem NA{b:Int}{r:Db}{j:Da}(l:Int)(h:DU w i d m O P L q p a b o r j)(f:∀k∈o,(k.sum.size:Int)=q)(g:AA o s)(c:eh j=200\/a=1000000000):
 D8 135 #[Yy d,C4 s,Zg l] w λe n=>e=.panicked [{v:=Cq 4 ⟨#[]⟩ ⟨#[]⟩,recovered:=bq}]/\Zz w n:=by
 obtain⟨HN,C,B,t⟩:=Yw (EM h.U f g),Au h.U.dh;subst t;have n:=Yw h;clear h f g;by_cases h1:eh j=200
 .have u:((eh j:Int)==200)=bg:=Yt;clear c h1;delta D8;go_in;go_wp2_with fail;refine HN.Aj ?_;rintro e z ⟨rfl,g⟩;have f:=n.A g;obtain⟨x,y⟩:=Aa.c2 f.U.box 3 7;clear f n HN;go_wp2;exact⟨rfl,rfl,g⟩
 have u:((eh j:Int)==200)=bq:=Yt;have A:(a==1000000000)=bg:=Yt;clear c h1;delta D8;go_in;go_wp2_with fail;refine HN.Aj ?_;rintro e z ⟨rfl,g⟩;have f:=n.A g;obtain⟨x,y⟩:=Aa.c2 f.U.box 3 7;clear f n HN;go_wp2;exact⟨rfl,rfl,g⟩
theorem Ud{x b:Int}{s:C9}{u:Db}(a:Int)(h:DU w i d m O P L x c f b s u t)(o:0<=c)(p:c<=1000000000)(q:0<=a)(r:a<=1000000000)(A:1000000000<c+a):
 D8 139 #[Yy d,Zg a] w λe g=>e=.panicked [{v:=Cq 4 ⟨#[]⟩ ⟨#[]⟩,recovered:=bq}]/\Zz w g:=by
 have⟨W,g⟩:=D6 w #[Yy d] 62;have k:=(Ax g).1;obtain⟨n,l,j,y⟩:=(Ax g).2.2,h.A k,Yw g,Ie o p q r;obtain⟨⟨B,_⟩,z,_⟩:=n 0 _ rfl,l.U.box 2 _ rfl;clear h l g n;delta D8;go_in;go_upto_region 1 with fail;rw[<-j.o];clear j;go_wp2;exact⟨rfl,rfl,k⟩
theorem Mb(a:Zk)(b:Nat)(n:Int)(w:Zh):
 D8 166 #[C3 a 0 b,Zg n,.func (.func 167) #[] #[]] w λe c=>e=C5 (.tuple #[Ze,ef bq])/\Zz w c:=by
 delta D8;go_in;go_wp2;go_loopw [9,10] (λi j wr=>i=Zg 0/\j=Zg 0/\wr=w) (λ_ _ _=>0)
 case atStart=>exact⟨rfl,rfl,rfl⟩
 obtain⟨rfl,rfl,rfl⟩:=hrel;go_wp2
 go_ret2
 exact⟨by first|rfl|simp[Act.put],Ae⟩
theorem Og(a:Zk)(b:Nat)(n:Zi)(w:Zh):
 D8 187 #[C3 a 0 b,C4 n,.func (.func 188) #[] #[]] w λe c=>e=C5 (.tuple #[Ze,ef bq])/\Zz w c:=by
 delta D8;go_in;go_wp2;go_loopw [9,10] (λi j wr=>i=Zg 0/\j=Zg 0/\wr=w) (λ_ _ _=>0)
 case atStart=>exact⟨rfl,rfl,rfl⟩
 obtain⟨rfl,rfl,rfl⟩:=hrel;go_wp2
 go_ret2
 exact⟨by first|rfl|simp[Act.put],Ae⟩
theorem ZJ{c:List Ld}(n:Int)(k:eo w d 83 3 L (eh c) (Ad lC c))(p:eh c<=600)(f:c.Pairwise (fun a b=>a.R<b.R)):
 Calls prog 166 #[L,Zg n,.func (.func 167) #[] #[]] w fun e l=>∃i:Nat,e=.returned (.tuple #[Zg i,ef (bx (∃x,c[i]?=an x/\x.R=n))])/\Kc c n i/\Zz w l:=by
 rcases k.2 with⟨rfl,r⟩|⟨g,m,s,rfl,_⟩
 .have:c=[]:=List.eq_nil_of_length_eq_zero r;subst this;refine(Mb ba 0 n w).mono ?_;rintro e l ⟨rfl,o⟩;exact⟨0,Yu,⟨Zx,fun j x h=>by omega,fun j x _ q=>by simp at q⟩,o⟩
 exact IA g m n k p f
theorem ZK{c:List Pd}(n:Zi)(k:eo w d 81 2 P (eh c) (Ad pC c))(p:eh c<=600)(f:c.Pairwise (fun a b=>less a.name b.name=bg)):
 Calls prog 187 #[P,.string n,.func (.func 188) #[] #[]] w fun e l=>∃i:Nat,e=.returned (.tuple #[Zg i,ef (bx (∃x,c[i]?=an x/\x.name=n))])/\DZ c n i/\Zz w l:=by
 rcases k.2 with⟨rfl,r⟩|⟨g,m,s,rfl,_⟩
 .have:c=[]:=List.eq_nil_of_length_eq_zero r;subst this;refine(Og ba 0 n w).mono ?_;rintro e l ⟨rfl,o⟩;exact⟨0,Yu,⟨Zx,fun j x h=>by omega,fun j x _ q=>by simp at q⟩,o⟩
 exact JN g m n k p f
theorem ZL{A k:Int}{y:List Kd}{j:List Ld}(n:Int)(h:DU w g d m O P L A r k f y z j)(C:eh j<=200)(c:j.Pairwise (fun a b=>a.R<b.R))(o:¬∃x∈j,x.R=n):
 Calls prog 138 #[Yy d,Zg n] w fun e l=>e=.panicked [{v:=Cq 5 ⟨#[]⟩ ⟨#[]⟩,recovered:=bq}]/\Zz w l:=by
 obtain⟨p,D,B,q⟩:=Yw (ZJ n h.U.dh Yv c),Au h.U.dh;subst q;obtain⟨l,s,_⟩:=Yw o,h.U.box 7 _ rfl;clear h c o;go_in;go_wp2_with fail;refine Calls.mono p.o ?_;rintro e E ⟨i,rfl,_,o⟩;have c:bx (∃x,j[i]?=an x/\x.R=n)=bq:=by rw[decide_eq_false_iff_not];rintro⟨x,u,t⟩;exact l.o ⟨x,Zs u,t⟩
 rw[c];clear c p l s;go_wp2;exact⟨rfl,rfl,o⟩
theorem Kg{y s k:Int}{u:C9}{g:Db}{v:Da}(n:Zi)(h:DU w j d m O P L y s k f u g v)(A:eh g<=200)(c:g.Pairwise (λa b=>less a.name b.name=bg)):
 D8 163 #[Yy d,C4 n] w λe l=>∃i:Nat,e=C5 (.tuple #[Zg i,ef (bx (∃x,g[i]?=an x/\x.name=n))])/\DZ g n i/\Zz w l:=by
 obtain⟨t,B,z,p⟩:=Yw (ZK n h.U.de Yv c),Au h.U.de;subst p;obtain⟨c6,_⟩:=h.U.box 6 _ rfl;clear h c;delta D8;go_in;go_wp2_with fail;refine t.Aj ?_;rintro e C ⟨i,rfl,r,q⟩;have⟨l,c⟩:∃l,bx (∃x,g[i]?=an x/\x.name=n)=l:=⟨_,rfl⟩;have o:=Yw c;rw[c];clear c;go_wp2
 go_ret2
 exact⟨i,by rw[o.o];rfl,r,q⟩
theorem Wh{t:Int}{r:C9}{k:Db}{s:Da}(n:Zi)(h:DU w j d m O P L t p f c r k s)(u:eh k<=200)(g:k.Pairwise (λa b=>less a.name b.name=bg))(o:¬∃x∈k,x.name=n):
 D8 137 #[Yy d,C4 n] w λe l=>e=.panicked [{v:=Cq 5 ⟨#[]⟩ ⟨#[]⟩,recovered:=bq}]/\Zz w l:=by
 have q:=Yw (Kg n h u g);have l:=Yw o;clear h g o;delta D8;go_in;go_wp2_with fail;refine q.Aj ?_;rintro e A ⟨i,rfl,_,o⟩;have g:bx (∃x,k[i]?=an x/\x.name=n)=bq:=by rw[decide_eq_false_iff_not];rintro⟨x,z,y⟩;exact l ⟨x,Zs z,y⟩
 rw[g];clear g q l;go_wp2;exact⟨rfl,rfl,o⟩
theorem BL{n:Nat}{f:Zj}(h:eo w b e size v n f)(c:ej v=an g):∃a,w.1[g]?=an (ca a e):=by
 rcases h.2 with⟨rfl,_⟩|⟨j,i,a,rfl,_,d,_⟩
 .cases c
 cases c;exact⟨a,d⟩
theorem DU.fe{v i g:Int}{s:C9}{u:Db}(h:DU w k d m O P L v p i g s u t){R:Nat}{l:Array Value}(j:w.1[R]?=an (ca l 42))(r:R≠d):R∉vB d m O P L/\NS w R:=by
 refine⟨λa=> ?_,λl b e=>by rw[j]at e;cases e⟩;unfold vB at a;simp only[Cf,Bw,By]at a;rcases a with a|a|a|a|a
 .exact r a
 .obtain⟨n,f,_,q,_⟩:=h.U.map;obtain⟨D,⟨x,clock,o,_⟩,_⟩:=q;rw[<-a,j]at o;cases o
 .obtain⟨c,b⟩:=BL h.U.ord a;rw[j]at b;cases b
 .obtain⟨c,b⟩:=BL h.U.de a;rw[j]at b;cases b
 obtain⟨c,b⟩:=BL h.U.dh a;rw[j]at b;cases b
theorem GA{f:Nat}{j:Int}{i:C9}(s x K:Zi)(o:Int)(H:Zk)(J I:Nat)(h:DU w f d m O P L j n c a i z t)(k:Int)(y r:Value->Value)(u:Int)(p:Db)(l:Da)(B:List Nat)(D:∀b∈B,b<w.1.size)(R:(k=2/\∀W,DU W f d m O P L j n c a i z t->D8 136 #[Yy d,C4 x,C4 s] W (λe g=>e=C5 (.tuple #[])/\∃V,DU g f d m O (y V) (r V) j u c a i p l/\Tn B W g))\/(k=3/\∀W,DU W f d m O P L j n c a i z t->D8 137 #[Yy d,C4 x] W (λe g=>e=C5 (.tuple #[])/\∃V,DU g f d m O (y V) (r V) j u c a i p l/\Tn B W g))\/(k=5/\∀W,DU W f d m O P L j n c a i z t->D8 138 #[Yy d,Zg o] W (λe g=>e=C5 (.tuple #[])/\∃V,DU g f d m O (y V) (r V) j u c a i p l/\Tn B W g))\/(k=6/\∀W,DU W f d m O P L j n c a i z t->D8 139 #[Yy d,Zg o] W (λe g=>e=C5 (.tuple #[])/\∃V,DU g f d m O (y V) (r V) j u c a i p l/\Tn B W g))):
 D8 97 #[Yy d,ct (Ye k s x o K H J I)] w λe g=>e=C5 (ct (ei z12))/\∃V,DU g f d m O (y V) (r V) j u c a i p l/\Tn B w g:=by
 have⟨W,g⟩:=Ag (((w.alloc (ca (Ye k s x o K H J I) 91)).alloc (ca Yd 42)).alloc (ca Yd 42));obtain⟨F,E,S⟩:=(BI g).1,(BI g).2.1,(BI g).2.2.1;have zR:Aa W (w.1.size+1) z12:=(BI g).2.2.2.1;have T:Aa W (w.1.size+2) z12:=(BI g).2.2.2.2;have A:W.1[w.1.size+1]?=an (ca Yd 42):=by rw[g,Below.heap_alloc _ _ _ Yu];have:=heap_alloc_new (w.alloc (ca (Ye k s x o K H J I) 91)) (ca Yd 42);rw[Ao]at this;exact this
 obtain⟨M,zA,Q⟩:=h.A F,h.U.box.lt,Yw g;have q:Hid (Aa W (w.1.size+1) z12/\Aa W (w.1.size+2) z12/\W.1[w.1.size+1]?=an (ca Yd 42)/\Zz w W/\W.1.size=w.1.size+3/\f<=w.1.size):=⟨zR,T,A,F,E,h.lo⟩;have C:=Yw D;obtain⟨⟨U,X,Y,Z⟩,N,G⟩:=Aa.c4 S 0 1 2 3,Yw M,Yw R;clear g h M zR T A F E S D R;rcases G.o with⟨rfl,g⟩|⟨rfl,g⟩|⟨rfl,g⟩|⟨rfl,g⟩
 all_goals
  have M:=Yw g;clear g G;delta D8;go_in;go_upto_region 2 with fail;rw[<-Q.o];clear Q;go_wp2_with fail;refine Calls.mono (M W N) ?_;rintro e Q ⟨rfl,V,D,g⟩;have zz:=q.2.2.2.2.1;have G:=Aa.same q.1 (g.block _ Yv (λh=>Dl (C _ h)));have F:=Aa.same q.2.1 (g.block _ Yv (λh=>Dl (C _ h)));have E:=(g.block _ Yv (λh=>Dl (C _ h))).ag q.2.2.1;obtain⟨A,⟨⟨T,q0⟩,⟨y1,q1⟩,⟨y2,q2⟩,⟨y3,q3⟩,⟨y4,q4⟩,⟨y5,q5⟩,⟨y6,q6⟩,⟨y7,q7⟩,⟨y8,q8⟩,⟨y9,q9⟩,⟨R,zB⟩,S,zC⟩,⟨v0,_⟩,⟨v1,_⟩,⟨v2,_⟩,⟨v3,_⟩,⟨v4,_⟩,⟨v5,_⟩,⟨v6,_⟩,⟨v7,_⟩,⟨v8,_⟩,⟨v9,_⟩,⟨zE,_⟩,zF,_⟩:=Yw (Zn D (Zn g (D.fe E Yv))),Bv G,Bv F;clear D g G F E U X Y Z M zz N;go_wp2;refine C1 (ct (ei z12)) (by simp[results,results97,go_sem,T,y1,y2,y3,y4,y5,y6,y7,y8,y9,R,S,z12]) ⟨rfl,V,A.1.S (BB Q (w.1.size+1) _ _ _ _ _ _ _ _ _ _ _ _) (by intro b g;simp at g;subst g;exact⟨Dl q.2.2.2.2.2,A.2.2⟩),Tn.fresh ((Tn.of q.2.2.2.1).ag A.2.1) (BB Q (w.1.size+1) _ _ _ _ _ _ _ _ _ _ _ _) Yv⟩
theorem MS{k:Int}{n:Db}{j:Da}(s r y:Zi)(i:Int)(t:Zk)(v u:Nat)(h:DU w g d m O P L p k f c o n j)(B:eh j<=200)(l:j.Pairwise (λa b=>a.R<b.R))(z:∃x∈j,x.R=i):
 D8 97 #[Yy d,ct (Ye 5 s r i y t v u)] w λe q=>e=C5 (ct (ei z12))/\∃A,DU q g d m O P A p k f c o n (BD j i)/\Tn (d::(ej L).toList) w q:=
 GA s r y i t v u h 5 (λ_=>P) (λV=>V) (k) (n) (BD j i) (d::(ej L).toList) (λb q=>h.U.db b (by unfold vB;simp at q |-;rcases q with rfl|q<;>simp[*])) (eb (eb (dp ⟨rfl,λW A=>We i A B l z⟩)))
theorem MT{l:C9}{k:Db}{j:Da}(s p u:Zi)(g:Int)(q:Zk)(t r:Nat)(h:DU w i d m O P L n f c a l k j)(z:eh j<=200)(v:0<=f)(x:0<=g)(A:f+g<=1000000000):
 D8 97 #[Yy d,ct (Ye 6 s p g u q t r)] w λe o=>e=C5 (ct (ei z12))/\∃y,DU o i d m O P y n (f+g) c a l k (AT j (f+g))/\Tn (d::(ej L).toList) w o:=
 GA s p u g q t r h 6 (λ_=>P) (λV=>V) (f+g) (k) (AT j (f+g)) (d::(ej L).toList) (λb o=>h.U.db b (by unfold vB;simp at o |-;rcases o with rfl|o<;>simp[*])) (eb (eb (eb ⟨rfl,λW y=>Wg g y z v x A⟩)))
theorem Mc{j:Int}{i:Db}{n:Da}(s k y:Zi)(q:Int)(t:Zk)(v u:Nat)(h:DU w g d m O P L p j f c o i n)(B:eh i<=200)(l:i.Pairwise (λa b=>less a.name b.name=bg))(z:∃x∈i,x.name=k):
 D8 97 #[Yy d,ct (Ye 3 s k q y t v u)] w λe r=>e=C5 (ct (ei z12))/\∃A,DU r g d m O A L p j f c o (Bh i k) n/\Tn (d::(ej P).toList) w r:=
 GA s k y q t v u h 3 (λV=>V) (λ_=>L) (j) (Bh i k) (n) (d::(ej P).toList) (λb r=>h.U.db b (by unfold vB;simp at r |-;rcases r with rfl|r<;>simp[*])) (eb (dp ⟨rfl,λW A=>Ub k A B l z⟩))
theorem MU(d:Nat)(s j o:Zi)(g:Int)(l:Zk)(n m:Nat)(c:Int)(a b:Zi)(w:Zh)(h:∀X,Zz w X->D8 137 #[Yy d,C4 j] X λe f=>e=.panicked [{v:=Cq c a b,recovered:=bq}]/\Zz X f):
 D8 97 #[Yy d,ct (Ye 3 s j g o l n m)] w λe f=>e=.panicked [{v:=Cq c a b,recovered:=bq}]/\Zz w f:=by
 have⟨W,f⟩:=Ag (((w.alloc (ca (Ye 3 s j g o l n m) 91)).alloc (ca Yd 42)).alloc (ca Yd 42));have i:=(BI f).1;obtain⟨p,q,k⟩:=(BI f).2.2.1,Yw (h W i),Yw f;obtain⟨r,t,u,x⟩:=Aa.c4 p 0 1 2 3;clear f p h;delta D8;go_in;go_upto_region 2 with fail;rw[<-k.o];clear k;go_wp2_with fail;refine q.Aj ?_;rintro e k ⟨rfl,f⟩;exact⟨rfl,rfl,i.ag (f.ai i.size)⟩
theorem IW(d:Nat)(s k o:Zi)(f:Int)(l:Zk)(n m:Nat)(c:Int)(a b:Zi)(w:Zh)(h:∀X,Zz w X->D8 135 #[Yy d,C4 s,Zg f] X λe g=>e=.panicked [{v:=Cq c a b,recovered:=bq}]/\Zz X g):
 D8 97 #[Yy d,ct (Ye 4 s k f o l n m)] w λe g=>e=.panicked [{v:=Cq c a b,recovered:=bq}]/\Zz w g:=by
 have⟨W,g⟩:=Ag (((w.alloc (ca (Ye 4 s k f o l n m) 91)).alloc (ca Yd 42)).alloc (ca Yd 42));have i:=(BI g).1;obtain⟨p,q,j⟩:=(BI g).2.2.1,Yw (h W i),Yw g;obtain⟨r,t,u,x⟩:=Aa.c4 p 0 1 2 3;clear g p h;delta D8;go_in;go_upto_region 2 with fail;rw[<-j.o];clear j;go_wp2_with fail;refine q.Aj ?_;rintro e j ⟨rfl,g⟩;exact⟨rfl,rfl,i.ag (g.ai i.size)⟩
theorem Oh(d:Nat)(s k o:Zi)(f:Int)(l:Zk)(n m:Nat)(c:Int)(a b:Zi)(w:Zh)(h:∀X,Zz w X->D8 138 #[Yy d,Zg f] X λe g=>e=.panicked [{v:=Cq c a b,recovered:=bq}]/\Zz X g):
 D8 97 #[Yy d,ct (Ye 5 s k f o l n m)] w λe g=>e=.panicked [{v:=Cq c a b,recovered:=bq}]/\Zz w g:=by
 have⟨W,g⟩:=Ag (((w.alloc (ca (Ye 5 s k f o l n m) 91)).alloc (ca Yd 42)).alloc (ca Yd 42));have i:=(BI g).1;obtain⟨p,q,j⟩:=(BI g).2.2.1,Yw (h W i),Yw g;obtain⟨r,t,u,x⟩:=Aa.c4 p 0 1 2 3;clear g p h;delta D8;go_in;go_upto_region 2 with fail;rw[<-j.o];clear j;go_wp2_with fail;refine q.Aj ?_;rintro e j ⟨rfl,g⟩;exact⟨rfl,rfl,i.ag (g.ai i.size)⟩
theorem Oi(d:Nat)(s k o:Zi)(f:Int)(l:Zk)(n m:Nat)(c:Int)(a b:Zi)(w:Zh)(h:∀X,Zz w X->D8 139 #[Yy d,Zg f] X λe g=>e=.panicked [{v:=Cq c a b,recovered:=bq}]/\Zz X g):
 D8 97 #[Yy d,ct (Ye 6 s k f o l n m)] w λe g=>e=.panicked [{v:=Cq c a b,recovered:=bq}]/\Zz w g:=by
 have⟨W,g⟩:=Ag (((w.alloc (ca (Ye 6 s k f o l n m) 91)).alloc (ca Yd 42)).alloc (ca Yd 42));have i:=(BI g).1;obtain⟨p,q,j⟩:=(BI g).2.2.1,Yw (h W i),Yw g;obtain⟨r,t,u,x⟩:=Aa.c4 p 0 1 2 3;clear g p h;delta D8;go_in;go_upto_region 2 with fail;rw[<-j.o];clear j;go_wp2_with fail;refine q.Aj ?_;rintro e j ⟨rfl,g⟩;exact⟨rfl,rfl,i.ag (g.ai i.size)⟩
theorem Kh(d:Nat)(s j o:Zi)(g:Int)(l:Zk)(n m:Nat)(c:Int)(a b:Zi)(w:Zh)(h:∀X,Zz w X->D8 136 #[Yy d,C4 j,C4 s] X λe f=>e=.panicked [{v:=Cq c a b,recovered:=bq}]/\Zz X f):
 D8 97 #[Yy d,ct (Ye 2 s j g o l n m)] w λe f=>e=.panicked [{v:=Cq c a b,recovered:=bq}]/\Zz w f:=by
 have⟨W,f⟩:=Ag (((w.alloc (ca (Ye 2 s j g o l n m) 91)).alloc (ca Yd 42)).alloc (ca Yd 42));have i:=(BI f).1;obtain⟨p,q,k⟩:=(BI f).2.2.1,Yw (h W i),Yw f;obtain⟨r,t,u,x⟩:=Aa.c4 p 0 1 2 3;clear f p h;delta D8;go_in;go_upto_region 2 with fail;rw[<-k.o];clear k;go_wp2_with fail;refine q.Aj ?_;rintro e k ⟨rfl,f⟩;exact⟨rfl,rfl,i.ag (f.ai i.size)⟩
theorem Md{A:C9}{H:Db}{B:Da}(r y:Zi)(f:Int)(t:Zk)(x u:Nat)(h:DU w i d m O P L C n a c A H B)(U:∀k∈A,(k.sum.size:Int)=C)(Y:AA A s)(hl:eh B<200)(Q:0<=a)(R:a<1000000000)(S:0<=n)(T:n<=1000000000)(X:0<=f)(g:f<=1000000000):
 D8 97 #[Yy d,ct (Ye 4 s r f y t x u)] w λe j=>e=C5 (ct #[Ze,Ze,Ze,Ze,Ze,Zb,Zb,Zb,Zc,Zg (a+1),Zc,Zc])/\∃l,DU j i d m O P l C n (a+1) c A H (B++[⟨a+1,s,n+f⟩])/\Tn (d::(ej L).toList) w j:=by
 have⟨W,j⟩:=Ag (((w.alloc (ca (Ye 4 s r f y t x u) 91)).alloc (ca Yd 42)).alloc (ca Yd 42));obtain⟨G,F,M⟩:=(BI j).1,(BI j).2.1,(BI j).2.2.1;have zR:Aa W (w.1.size+1) z12:=by have z:=Aa.new (w.alloc (ca (Ye 4 s r f y t x u) 91)) z12 42;rw[Ao]at z;rw[j];exact Aa.A (v:=Ze) z (Zy)
 have N:Aa W (w.1.size+2) z12:=by have z:=Aa.new ((w.alloc (ca (Ye 4 s r f y t x u) 91)).alloc (ca Yd 42)) z12 42;rw[Ao,Ao]at z;rw[j];exact z
 have D:W.1[w.1.size+1]?=an (ca Yd 42):=by rw[j,Below.heap_alloc _ _ _ Yu];have:=heap_alloc_new (w.alloc (ca (Ye 4 s r f y t x u) 91)) (ca Yd 42);rw[Ao]at this;exact this
 have q:W.1[w.1.size+2]?=an (ca Yd 42):=by have:=heap_alloc_new ((w.alloc (ca (Ye 4 s r f y t x u) 91)).alloc (ca Yd 42)) (ca Yd 42);rw[Ao,Ao]at this;rw[j];exact this
 have K:=h.A G;have zA:=h.U.box.lt;have E:∀b∈d::(ej L).toList,b<w.1.size:=λb l=>h.U.db b (by unfold vB;simp at l |-;rcases l with rfl|l<;>simp[*]);have I:=Yw (Ph f K U Y hl Q R S T X g);have J:=Yw j;have o:Hid (Aa W (w.1.size+1) z12/\Aa W (w.1.size+2) z12/\W.1[w.1.size+1]?=an (ca Yd 42)/\W.1[w.1.size+2]?=an (ca Yd 42)/\Zz w W/\W.1.size=w.1.size+3/\i<=w.1.size):=⟨zR,N,D,q,G,F,h.lo⟩;have p:=Yw E;obtain⟨Z,k,e2,e3⟩:=Aa.c4 M 0 1 2 3;clear j h K zR N D q G F M E;delta D8;go_in;go_upto_region 2 with fail;rw[<-J.o];clear J;go_wp2_with fail;refine I.Aj ?_;rintro e J ⟨rfl,V,q,g⟩;have zz:=o.2.2.2.2.2.1;have G:=Aa.same o.1 (g.block _ Yv (λh=>Dl (p _ h)));have F:=Aa.same o.2.1 (g.block _ Yv (λh=>Dl (p _ h)));have E:=(g.block _ Yv (λh=>Dl (p _ h))).ag o.2.2.1;have D:=(g.block _ Yv (λh=>Dl (p _ h))).ag o.2.2.2.1;obtain⟨j,⟨⟨N,q0⟩,⟨y1,q1⟩,⟨y2,q2⟩,⟨y3,q3⟩,⟨y4,q4⟩,⟨y5,q5⟩,⟨y6,q6⟩,⟨y7,q7⟩,⟨y8,q8⟩,⟨y9,q9⟩,⟨K,zE⟩,M,zF⟩,⟨v0,p0⟩,⟨v1,p1⟩,⟨v2,p2⟩,⟨v3,p3⟩,⟨v4,p4⟩,⟨v5,p5⟩,⟨v6,p6⟩,⟨v7,p7⟩,⟨v8,p8⟩,⟨v9,p9⟩,⟨zG,zB⟩,zH,zC⟩:=Yw (Zn q (Zn g (Zn (q.fe E Yv) (q.fe D Yv)))),Bv G,Bv F;clear q g G F E D Z k e2 e3 I zz;go_wp2;refine C1 (ct #[Ze,Ze,Ze,Ze,Ze,Zb,Zb,Zb,Zc,Zg (a+1),Zc,Zc]) (by simp[results,results97,go_sem,N,y1,y2,y3,y4,y5,y6,y7,y8,y9,K,M]) ?_;have g:=(Tn.set (V:=[w.1.size+1,w.1.size+2]) J (w.1.size+2) 9 (Zg (a+1)) Yu).ag (Tn.ai (BB (ev J (Zd (w.1.size+2) 9) (Zg (a+1))) (w.1.size+1) Ze Ze Ze Ze Ze Zb Zb Zb Zc (Zg (a+1)) Zc Zc) Yu);refine⟨rfl,V,j.1.S g (by intro b l;simp at l;have:=o.2.2.2.2.2.2;rcases l with rfl|rfl;exact⟨Yv,j.2.2.1⟩;exact⟨Yv,j.2.2.2⟩),?_⟩;have q:=(Tn.of (V:=d::(ej L).toList) o.2.2.2.2.1).ag j.2.1;exact⟨g.os.ag q.os,g.tape.ag q.tape,g.output.ag q.output,Zm q.size g.size,λb l D=>(g.block b (Zr l q.size) Yt).ag (q.block b l D)⟩
def Bn(ps:List Pd)(n s:Zi):List Pd:=ps.filter (fun x=>less x.name n)++[⟨n,s⟩]++ps.filter (fun x=> !(less x.name n)&& !bx (x.name=n))
theorem DZ.split{b:Db}{n:Zi}(h:DZ b n i):b.filter (λx=>less x.name n)=b.take i:=by
 have e:=(take_append_drop i b).symm
 conv=>lhs;rw[e]
 rw[filter_append,filter_eq_self.2 (λx c=> ?_),filter_eq_nil_iff.2 (λx c=> ?_),append_nil]
 .obtain⟨j,a⟩:=A9 c;rw[getElem?_drop]at a;rw[h.hi (i+j) x Yv a];simp
 obtain⟨j,a⟩:=A9 c;have c:=(Zw a).1;rw[C0]at c;rw[getElem?_take_of_lt Yv]at a;exact h.lo j x Yv a
theorem DZ.ij{b:Db}{n:Zi}(h:DZ b n i):b.filter (λx=> !(less x.name n)&& !bx (x.name=n))=(b.drop i).filter (λx=> !bx (x.name=n)):=by
 have e:=(take_append_drop i b).symm
 conv=>lhs;rw[e]
 rw[filter_append,filter_eq_nil_iff.2 (λx c=> ?_),nil_append]
 .refine filter_congr (λx c=> ?_);have⟨j,a⟩:=A9 c;rw[getElem?_drop]at a;rw[h.hi (i+j) x Yv a];simp
 obtain⟨j,a⟩:=A9 c;have c:=(Zw a).1;rw[C0]at c;rw[getElem?_take_of_lt Yv]at a;rw[h.lo j x Yv a];simp
theorem QL{a:Db}{n:Zi}(h:DZ a n i)(b:¬∃x∈a,x.name=n):Bn a n s=a.take i++[⟨n,s⟩]++a.drop i:=by unfold Bn;rw[h.split,h.ij,filter_eq_self.2 (λx d=> ?_)];have c:x.name≠n:=λe=>b ⟨x,mem_of_mem_drop d,e⟩;simpa using c
theorem Wi{d:Db}{n:Zi}(h:DZ d n i)(q:d[i]?=an x)(k:x.name=n)(c:d.Pairwise (λa b=>less a.name b.name=bg)):Bn d n s=d.set i ⟨n,s⟩:=by
 have⟨f,e⟩:=Zw q;unfold Bn;rw[h.split,h.ij,drop_eq_getElem_cons f,filter_cons,e,k];simp only[decide_true,Bool.not_true,Bool.false_eq_true,if_false];rw[filter_eq_self.2 (λy l=> ?_),set_eq_take_append_cons_drop,if_pos f,append_assoc]
 .rfl
 obtain⟨j,g⟩:=A9 l;rw[getElem?_drop]at g;have⟨l,o⟩:=Zw g;have:=pairwise_iff_getElem.1 c i (i+1+j) f l Yv;rw[e,o,k]at this;have m:y.name≠n:=λp=>by rw[p,Ct]at this;cases this
 simpa using m
theorem Sx{a c n:Nat}{b:Db}(h:eo w a 81 2 (Yz g n c) n (Ad pC b))(j:b[i]?=an x)(s:Zi):eo (ev w (Zd g (i *2+1)) (C4 s)) a 81 2 (Yz g n c) n (Ad pC (b.set i ⟨x.name,s⟩)):=by
 have m:=(Zw j).1;have f:=(h.stored (i *2+1) (C4 s)).1;have l:(Ad pC b)[i *2]?=an (C4 x.name):=by have:=BU EC j (show 0<2 by decide);simpa [pC]using this
 have d:=Pp m (⟨x.name,s⟩:Pd);have k:(Ad pC b).set (i *2) (C4 x.name)=Ad pC b:=by have⟨o,e⟩:=Zw l;rw[<-e];exact set_getElem_self o
 rw[k]at d;rw[d]at f;exact f
theorem ZM{l:Nat}{t:List Kd}{j:List Pd}{A:List Ld}(n:Zi)(h:DU w l d m O P L u q f c t j A)(T:∀k∈t,(k.sum.size:Int)=u)(F:AA t s)(hl:eh j<=200)(z:j.Pairwise (fun a b=>less a.name b.name=bg))(U:∃x∈j,x.name=n):
 Calls prog 136 #[Yy d,.string n,.string s] w fun e o=>e=.returned (.tuple #[])/\∃K,DU o l d m O K L u q f c t (Bn j n s) A/\Tn (d::(ej P).toList) w o:=by
 have E:0<eh j:=gG;obtain⟨g,p,Q⟩:=Ke h.U.de E;subst Q;obtain⟨HN,V,B,N⟩:=Yw (EM h.U T F),Yw h,Yw z,Yw U;go_in;go_wp2_with fail;refine Calls.mono HN.o ?_;rintro e a ⟨rfl,C⟩;have G:=V.o.A C;have Y:=Yw (Kf g p n G hl B.o);go_wp2_with fail;refine Calls.mono Y.o ?_;rintro e r ⟨i,rfl,I,H⟩;obtain⟨x,y,J⟩:=I.at N.o B.o;have D:bx (∃x,j[i]?=an x/\x.name=n)=bg:=gA;have zB:=(Zw y).1;have W:Hid (Bn j n s=j.set i ⟨n,s⟩):=Wi I y J B.o;have o:=G.A H;obtain⟨c6,_⟩:=o.U.box 6 _ rfl;have k:ek r (Zd g (i *2+1))=an (.string x.sum):=by have:=(o.U.de.cellAt (i *2+1) Yv).trans (BU EC y (show 1<2 by decide));simpa [pC]using this
 have zA:el r ⟨g,i *2+1,ba⟩=bq:=o.U.de.frozenAt _;have S:g≠d:=((Dv o.U.ap).2.2.1 g rfl).1;have v:=Sx o.U.de y s;rw[J]at v;have Z:∃K,DU (ev r (Zd g (i *2+1)) (.string s)) l d m O K L u q f c t (Bn j n s) A/\Tn (d::(ej (Yz g (eh j) p)).toList) w (ev r (Zd g (i *2+1)) (.string s)):=by
  have M:Tn (d::(ej (Yz g (eh j) p)).toList) r (ev r (Zd g (i *2+1)) (.string s)):=(AX r g _ _).mono (by intro b K;simp[Value.ownBlock]at K |-;exact eb K);have R:Aa (ev r (Zd g (i *2+1)) (.string s)) d [Zg u,.map (an m),Zg q,Zg f,Zg c,O,Yz g (eh j) p,L]:=Aa.same o.U.box (Below.heap_setCell _ _ _ _ (fun e=>S e.symm));refine⟨Yz g (eh j) p,o.iy M R ?_ (dp rfl),(Tn.of (C.trans (H.mono C.size))).trans M⟩;rw[W.o,List.length_set];exact v
 have X:=Yw Z;rw[D];go_wp2;refine bodyPost_ret (results_none rfl _ _ _) rfl ?_;exact⟨rfl,X.o⟩
theorem QM{c:Nat}{j b:Int}{g:C9}{p:Db}{o:Da}(n s:Zi)(h:DU w c d m O P L l j b a g p o)(i:∀k∈g,(k.sum.size:Int)=l)(f:¬AA g s):
 D8 136 #[Yy d,C4 n,C4 s] w λe q=>e=.panicked [{v:=Cq 2 ⟨#[]⟩ ⟨#[]⟩,recovered:=bq}]/\Zz w q:=by
 have HN:=Yw (KF s h.U i f);clear h i f;delta D8;go_in;go_wp2_with fail;refine HN.Aj ?_;rintro e i ⟨rfl,f⟩;go_wp2;exact⟨rfl,rfl,f⟩
theorem Wj{g:Db}{B:Da}(n:Zi)(h:DU w j d m O P L r q f c o g B)(G:∀k∈o,(k.sum.size:Int)=r)(u:AA o s)(M:eh g=100)(l:g.Pairwise (λa b=>less a.name b.name=bg))(H:¬∃x∈g,x.name=n):
 D8 136 #[Yy d,C4 n,C4 s] w λe p=>e=.panicked [{v:=Cq 4 ⟨#[]⟩ ⟨#[]⟩,recovered:=bq}]/\Zz w p:=by
 have⟨C,A,F⟩:=Au h.U.de;subst F;obtain⟨HN,J,D,R,Q⟩:=Yw (EM h.U G u),Yw h,Yw l,Yw H,Yw M;delta D8;go_in;go_wp2_with fail;refine HN.Aj ?_;rintro e N ⟨rfl,p⟩;have y:=J.A p;have K:=Yw (Kg n y Yv D);go_wp2_with fail;refine K.Aj ?_;rintro e S ⟨i,rfl,_,z⟩;have t:bx (∃x,g[i]?=an x/\x.name=n)=bq:=gG;have E:=y.A z;obtain⟨c6,_⟩:=E.U.box 6 _ rfl;have I:=Yw (p.ag (z.ai p.size));rw[t];go_wp2;exact⟨rfl,rfl,I⟩
theorem Fx{P:Program}(w:Zh)(l u x elem:TypeId)(i:TypeInfo)(k b o c f:Nat)(a:Addr)(d h:Nat)(e:Zj)(t:P.underlying l=an (.slice elem))(q:P.info? elem=an i)(r:i.size=k)(s:eh e=Nat.min d c *k)(g:∀j v,e[j]?=an v->ek w (a.add j)=an v)(y:∀j,j<eh e->(ek w (Zd b (o+j))).isSome=bg)(z:∀j,j<eh e->el w ⟨b,o+j,ba⟩=bq)(p:∀v∈e,v.oneCell'=bg):
 (Builtin.copy_ #[l,u] x #[C3 (an ⟨b,o,ba⟩) c f,C3 (an a) d h]).run P w=.ok (goInt (Nat.min d c)) (w.setCells b o e):=by
 have m:=run_loadCells_list (P:=P) w a e g;have n:=run_storeCells_cells (P:=P) b o e 0 w Yv Yv p;rw[s]at m;subst r;simp[Builtin.copy_,run_underlying t,Builtin.lenOf,Builtin.firstCells,sizeOf,typeInfo,q,m,n]
theorem ED(g:Nat)(t:TypeId)(a:Nat×Nat):∀(vs:Zj) (o:Nat) (w:Zh) (cur:Array Value),w.1[g]?=an (ca cur t a)->o+eh vs<=cur.size->
 (w.setCells g o vs).1[g]?=an (ca (ei (cur.toList.take o++vs++cur.toList.drop (o+eh vs))) t a)
 |[],o,w,cur,hg,_=>by simpa [setCells]using hg
 |v::r,o,w,cur,hg,hl=>by
  simp only[length_cons]at hl;rw[setCells];have b:(ev w (Zd g o) v).1[g]?=an (ca (cur.setIfInBounds o v) t a):=by rw[setCell_eq_setRow w g o cur t a v hg];exact setRow_heap w g cur _ t _ hg
  rw[ED g t a r (o+1) _ _ b Yt];have e:=list_seg_step cur.toList o v r Yt;simp only[Array.toList_setIfInBounds,length_cons];rw[e]
theorem JP(g:Nat):∀(vs:Zj) (o:Nat) (w:Zh),(w.setCells g o vs).1.size=w.1.size
 |[],_,_=>rfl
 |v::r,o,w=>by rw[setCells,JP g r];simp[setCell]
theorem Ue{c n:Nat}{a f:Zj}(h:eo w c e k (Yz g n d) n a)(v:i<=n)(y:eh f=k)(j:n+1<=d):
 eo ((w.setCells g ((i+1) *k) (a.drop (i *k))).setCells g (i *k) f) c e k (Yz g (n+1) d) (n+1) (a.take (i *k)++f++a.drop (i *k)):=by
 obtain⟨F,x⟩:=h;rcases x with⟨e,_⟩|⟨C,o,b,e,t,u,D,r,s,E⟩
 .cases e
 cases e;have G:=Nat.mul_le_mul_right k v;have z:=Nat.mul_le_mul_right k j;rw[Nat.add_mul]at z |-;have hlen:eh (a.take (i *k)++f++a.drop (i *k))=n *k+k:=Yt;have m:(n+1) *k=n *k+k:=gG;have l:eh (a.drop (i *k))=n *k -i *k:=Yt;have p:=ED g e (0,0) (a.drop (i *k)) (i *k+1 *k) w b u Yv;have q:=ED g e (0,0) f (i *k) _ _ p Yt;refine⟨by rw[hlen,m],eb ⟨g,d,_,rfl,t,q,j,r,?_,?_⟩⟩
 .simp[l,s,y];omega
 have A:(b.toList.take (i *k+1 *k)++a.drop (i *k)++b.toList.drop (i *k+1 *k+eh (a.drop (i *k)))).take (i *k)=a.take (i *k):=gG;have B:(b.toList.take (i *k+1 *k)++a.drop (i *k)++b.toList.drop (i *k+1 *k+eh (a.drop (i *k)))).drop (i *k+eh f)=a.drop (i *k)++b.toList.drop (i *k+1 *k+eh (a.drop (i *k))):=gG;rw[toList_toArray,toList_toArray,A,B,<-append_assoc,take_append_of_le_length Yv,Zt Yv]
theorem Wk{c n:Nat}{a b d:Zj}(x:eh a=n *k)(s:i<=n)(t:eh b=k)(q:c<=g)(r:w.1[g]?=an (ca (ei (a.take (i *k)++d)) e (0,0)))(y:i *k+eh d=G *k)(f:n+1<=G)(h:G<=ew):
 eo ((w.setCells g (i *k) b).setCells g ((i+1) *k) (a.drop (i *k))) c e k (Yz g (n+1) G) (n+1) (a.take (i *k)++b++a.drop (i *k)):=by
 have z:=Nat.mul_le_mul_right k s;have u:=Nat.mul_le_mul_right k f;rw[Nat.add_mul]at u |-;have hlen:eh (a.take (i *k)++b++a.drop (i *k))=n *k+k:=Yt;have l:(n+1) *k=n *k+k:=gG;have m:eh (a.take (i *k))=i *k:=Yt;have j:eh (a.drop (i *k))=n *k -i *k:=Yt;have o:=ED g e (0,0) b (i *k) w _ r Yt;have p:=ED g e (0,0) (a.drop (i *k)) (i *k+1 *k) _ _ o Yt;refine⟨by rw[hlen,l],eb ⟨g,G,_,rfl,q,p,f,h,?_,?_⟩⟩
 .simp[j,t,m];omega
 have A:(a.take (i *k)++d).take (i *k)=a.take (i *k):=gA;have v:((a.take (i *k)++d).take (i *k)++b++(a.take (i *k)++d).drop (i *k+eh b)).take (i *k+1 *k)=a.take (i *k)++b:=gG;rw[v,take_append_of_le_length Yv,Zt Yv]
theorem NB(b:Nat)(a:Zj)(o:Nat)(w:Zh)(h:∀j,j<eh a->(ek w (Zd b (o+j))).isSome=bg)(k:Nat)(c:(ek w (Zd b k)).isSome=bg):(ek (w.setCells b o a) (Zd b k)).isSome=bg:=by
 by_cases hin:o<=k/\k<o+eh a
 .obtain⟨j,rfl⟩:∃j,k=o+j:=⟨k -o,Yv⟩;rw[cell?_setCells_in b a o w h j Yv];rfl
 rw[cell?_setCells_out b a o w _ (λ_ _=>by show k<o\/o+eh a<=k;omega)];exact c
theorem NC(b:Nat):∀(vs:Zj) (o:Nat) (w:Zh),(w.setCells b o vs).drew=w.drew.setCells b o vs
 |[],_,_=>rfl
 |v::r,o,w=>by rw[setCells,setCells,NC b r];rfl
theorem Me(w:Zh)(a:Addr):ek w.drew a=ek w a:=rfl
theorem Ps(w:Zh)(a:Addr):el w.drew a=el w a:=rfl
theorem QN(w:Zh)(r:Option Nat):ep w w.drew r:=⟨rfl,rfl,rfl,Zx,λ_ _ _=>rfl⟩
theorem He{P:Program}(w:Zh){b:Array Oper}{o:Oper}{a:Act}{Q:Exit->Act->Zh->Prop}(j:o.guard=ba)(d s:Operand)(t c:TypeId)(k:o.op=.call {callee:=.builtin .copy,args:= #[d,s],argTypes:= #[t,c]})(v u:D4)(i:a.eval d=v)(m:a.eval s=u){e:D4}{f:Zh}(l:(Builtin.copy_ #[t,c] o.type #[v,u]).run P w=.ok e f)(h:wpList P b Q rest (a.put o.dst e) f):wpList P b Q (o::rest) a w:=by
 refine wpList_plain j λK g=> ?_;unfold Oper.wp;simp[execOp,k,resolve,invoke,builtin,i,m,l,Result.andThen];exact g _ _ h
theorem IB{P:Program}{f:Array Oper}{o:Oper}{a:Act}{K:Act->Zh->Prop}{Q:Exit->Act->Zh->Prop}{E:Prop}(i:o.guard=ba)(d s:Operand)(t b:TypeId)(j:o.op=.call {callee:=.builtin .copy,args:= #[d,s],argTypes:= #[t,b]})(v u:D4)(h:a.eval d=v)(l:a.eval s=u){c:D4}{e:Zh}(k:(Builtin.copy_ #[t,b] o.type #[v,u]).run P w=.ok c e)(g:K (a.put o.dst c) e):
 if Region.wanted o (yielded f a.tmps)=bg then Oper.wp P o a w K Q else E:=by
 rw[if_pos (by simp[Region.wanted,i])];unfold Oper.wp;simp[execOp,j,resolve,invoke,builtin,h,l,k,Result.andThen];exact g
section
open Go.ChangeShapes Go.WideShapes Go.ChangeAt Go.RowKit Go.Lib
def MV(fk fo te ts sz bt:Nat)(zv:Value):Prop:=
 (fk=164/\fo=190/\te=81/\ts=27/\sz=2/\bt=32/\zv=ct #[Zc,Zc])\/
 (fk=186/\fo=201/\te=122/\ts=101/\sz=8/\bt=8/\zv=ct DA)
theorem KG{l a:Nat}{j:D4}(n:MV l m h k a b j):∃i:TypeInfo,prog.info? h=an i/\i.zero=an j/\i.size=a/\i.bytes=b/\prog.underlying k=an (.slice h)/\(Value.cells j).size=a/\0<a/\b<=32/\a<=8:=by
 rcases n with⟨rfl,rfl,rfl,rfl,rfl,rfl,rfl⟩|⟨rfl,rfl,rfl,rfl,rfl,rfl,rfl⟩
 .obtain⟨g,f,c,d,e⟩:=info_parts Hq;exact⟨g,f,c,d,e,underlying27,Yr,Yq,Yq,Yq⟩
 obtain⟨g,f,c,d,e⟩:=info_parts KD;exact⟨g,f,c,d,e,underlying101,Yr,Yq,Yq,Yq⟩
theorem Sy{A:Type}{a:A->Zj}{e:Nat}{c:Nat}{x:A}(d:w.1[c]?=an (ca (ei (a x)) e (0,0))):∀j u,(Ad a [x])[j]?=an u->ek w (Zd c j)=an u:=by intro j u b;rw[Ad,flatMap_cons,flatMap_nil,append_nil]at b;simp only[cell?,d];rw[<-b];simp
theorem Abu{q l s r p:Nat}{t:D4}(o:MV q l k s r p t){c:Nat}{x y:Array Value}(f:c≠g)(b:w.1[c]?=an (ca x k (0,0)))(n:w.1[g]?=an (ca y k (0,0)))(m:y.size≠0):(callFunc l #[Yz c 1 1,C3 (an ⟨g,d,ba⟩) j i]).run prog w=.ok (.value (ef bq)) w:=by
 have⟨A,a,u,h,v,z,_⟩:=KG o;rcases o with⟨rfl,rfl,rfl,rfl,rfl,rfl,rfl⟩|⟨rfl,rfl,rfl,rfl,rfl,rfl,rfl⟩
 .rw[run_callFunc_extern func190 Yr Yr Yr (e:=Extern.SlicesOverlaps.overlaps #[27,27] #[4]) Yr,
   Lib.run_overlaps_apart w 27 4 81 underlying27 2 (λw=>by simp[sizeOf,typeInfo,a,h]) ⟨c,0,ba⟩ ⟨g,d,ba⟩ 1 1 j i f 81 81 x.size y.size (by simp only[shape?,b]) (by simp only[shape?,n]) m (by simp only[frozen?,b];rfl) (by simp[frozen?,b])]
  rfl
 rw[run_callFunc_extern func201 Yr Yr Yr (e:=Extern.SlicesOverlaps.overlaps #[101,101] #[4]) Yr,
  Lib.run_overlaps_apart w 101 4 122 underlying101 8 (λw=>by simp[sizeOf,typeInfo,a,h]) ⟨c,0,ba⟩ ⟨g,d,ba⟩ 1 1 j i f 122 122 x.size y.size (by simp only[shape?,b]) (by simp only[shape?,n]) m (by simp only[frozen?,b];rfl) (by simp[frozen?,b])]
 rfl
theorem ZN{A:Type}{d:A->Zj}{I L l:Nat}{S:Value}(t:MV I L l D k H S)(Q:∀x,eh (d x)=k)(N:∀h,∀u∈Ad d h,u.oneCell'=bg)(b:List A)(x:A)(F:Nat){a:Nat}(v:eo w a l k P (eh b) (Ad d b))(W:eh b<=600)(f:a<=w.1.size)(C:w.1[F]?=an (ca (ei (d x)) l (0,0))):
 Calls prog I #[P,Zg (eh b),Yz F 1 1] w fun e G=>∃c,e=.returned c/\eo G a l k c (eh b+1) (Ad d (b++[x]))/\ep w G (ej P)/\(ej c=ej P\/ej c=an w.1.size):=by
 obtain⟨R,c,n,o,p,i,q,z,m,y⟩:=KG t;obtain⟨E,G,B,h,s,_,J⟩:=run_append_own_at (P:=prog) w a D D l R _ k H i c n o p q z P (eh b) (Ad d b) v ⟨F,0,ba⟩ 1 1 (Ad d [x]) (by rw[BY Q];simp) (fun j u i=>by rw[Go.WideShapes.add_plain,Nat.zero_add];exact Sy C j u i) (N _) Yo (Zm (Nat.mul_le_mul (show eh b+1<=601 by omega) m) Yq) f;rw[<-Cd]at h;have r:=Yw (Zn h (Zn s J));clear h s J;rcases v.2 with⟨e,K⟩|⟨g,J,T,e,V,O,U,h,s,M⟩
 .subst e;rw[K]at r |-;clear v C i q z m y c n o p;rcases t with⟨rfl,rfl,rfl,rfl,rfl,rfl,rfl⟩|⟨rfl,rfl,rfl,rfl,rfl,rfl,rfl⟩
  all_goals
   go_in;go_wp2_with (at_builtin;refine Lib.wpList_append_run _ rfl _ _ _ _ rfl _ _ rfl rfl _ _ B ?_);go_ret;exact⟨E,rfl,r.o⟩
 subst e;clear v C i q z m y c n o p O s M;unfold ew at h;by_cases hc:J=eh b
 .subst hc;rcases t with⟨rfl,rfl,rfl,rfl,rfl,rfl,rfl⟩|⟨rfl,rfl,rfl,rfl,rfl,rfl,rfl⟩
  all_goals
   go_in;go_wp2_with (at_builtin;refine Lib.wpList_append_run _ rfl _ _ _ _ rfl _ _ rfl rfl _ _ B ?_);go_ret;exact⟨E,rfl,r.o⟩
 rcases t with⟨rfl,rfl,rfl,rfl,rfl,rfl,rfl⟩|⟨rfl,rfl,rfl,rfl,rfl,rfl,rfl⟩
 all_goals
  go_in;go_wp2_with (at_builtin;refine Lib.wpList_append_run _ rfl _ _ _ _ rfl _ _ rfl rfl _ _ B ?_);go_ret;exact⟨E,rfl,r.o⟩
theorem Uf{A:Type}{d:A->Zj}{P Q r:Nat}(N:MV P Q r m b bt zv)(I:∀x,eh (d x)=b)(R:∀k,∀u∈Ad d k,u.oneCell'=bg)(g c i:Nat)(a:List A)(x:A)(D:Nat){o:Nat}(C:eo w o r b (Yz g (eh a) c) (eh a) (Ad d a))(hl:eh a<=600)(hi:i<eh a)(l:eh a+1<=c)(L:D≠g)(F:w.1[D]?=an (ca (ei (d x)) r (0,0))):
 D8 P #[Yz g (eh a) c,Zg i,Yz D 1 1] w λe f=>e=C5 (Yz g (eh a+1) c)/\eo f o r b (Yz g (eh a+1) c) (eh a+1) (Ad d (a.take i++[x]++a.drop i))/\ep w f (an g):=by
 obtain⟨S,p,Z,H,u,O,zA,h0,T,Y⟩:=KG N;have⟨n,E,zC,U,V,W⟩:∃n,w.1[g]?=an (ca n r (0,0))/\eh a<=c/\c<=ew/\n.size=c *b/\n.toList.take (eh a *b)=Ad d a:=by
  rcases C.2 with⟨e,_⟩|⟨g',zB,n,e,hb,E,h1,h2,h3,h4⟩
  .cases e
  cases e;exact⟨n,E,h1,h2,h3,h4⟩
 have m1:(i+1) *b=i *b+b:=Nat.succ_mul i b;have m2:(i+1) *b<=eh a *b:=Nat.mul_le_mul_right b hi;have m3:(eh a -i) *b=eh a *b -i *b:=Nat.sub_mul _ _ _;have m5:(eh a+1) *b=eh a *b+b:=Nat.succ_mul _ _;have m4:(eh a+1) *b<=c *b:=Nat.mul_le_mul_right b l;have M:=BY I a;have G:eh (Ad d [x])=b:=by rw[BY I];simp
 have K:eh ((Ad d a).drop (i *b))=(eh a -i) *b:=by rw[length_drop,M];omega
 have f:∀j,j<c *b->(ek w (Zd g j)).isSome=bg:=λj q=>by simp only[cell?,E];rw[Ci Yv];rfl
 have X:∀s k,(callFunc Q #[Yz D 1 1,C3 (an ⟨g,(i+1) *b,ba⟩) s k]).run prog w=.ok (.value (ef bq)) w:=λs k=>Abu N L F E Yv;have B:∀z y k,(Builtin.copy_ #[m,m] z #[C3 (an ⟨g,(i+1) *b,ba⟩) (eh a+1 -(i+1)) y,C3 (an ⟨g,i *b,ba⟩) (eh a+1 -i) k]).run prog w.drew=.ok (goInt (Nat.min (eh a+1 -i) (eh a+1 -(i+1)))) (w.drew.setCells g ((i+1) *b) ((Ad d a).drop (i *b))):=λz y k=>
  Fx w.drew m m z r S b g ((i+1) *b) (eh a+1 -(i+1)) y ⟨g,i *b,ba⟩ (eh a+1 -i) k ((Ad d a).drop (i *b)) O p H (by rw[K];congr 1;show _=min _ _;omega)
   (fun j v q=>by
     rw[A7];rw[getElem?_drop]at q;have:=(Zw q).1;exact(C.cellAt _ Yv).ag q)
   (λj q=>f _ Yv) (λj _=>C.frozenAt _) (λv F=>R _ v (mem_of_mem_drop F))
 obtain⟨s,k⟩:=Ag (w.drew.setCells g ((i+1) *b) ((Ad d a).drop (i *b)));have J:∀z y,(Builtin.copy_ #[m,m] z #[C3 (an ⟨g,i *b,ba⟩) (eh a+1 -i) y,Yz D 1 1]).run prog s=.ok (goInt (Nat.min 1 (eh a+1 -i))) (s.setCells g (i *b) (Ad d [x])):=λz y=>
  Fx s m m z r S b g (i *b) (eh a+1 -i) y ⟨D,0,ba⟩ 1 1 (Ad d [x]) O p H (by rw[G,show Nat.min 1 (eh a+1 -i)=1 from Nat.min_eq_left Yv,Nat.one_mul])
   (fun j v q=>by
     rw[A7,Ay,k,cell?_setCells_out g _ _ _ _ (λh _=>absurd h L)];exact Sy F j v q)
   (λj q=>by rw[k];exact NB g ((Ad d a).drop (i *b)) ((i+1) *b) w.drew (λt q=>f _ Yv) (i *b+j) (f _ Yv)) (λj _=>by rw[k,frozen?_setCells];exact C.frozenAt _) (R _)
 have q:eo (s.setCells g (i *b) (Ad d [x])) o r b (Yz g (eh a+1) c) (eh a+1) (Ad d (a.take i++[x]++a.drop i))/\ep w (s.setCells g (i *b) (Ad d [x])) (an g):=by
  refine⟨?_,?_⟩
  .rw[Cd,Cd,<-Ls I a i Yv,<-Ji I a i Yv,k];exact Ue (w:=w.drew) (Ah C (Ae.drew)) Yv G l
  rw[k];exact Ai (FV (Es g _ _ _)) (Es g _ _ _)
 have y:=Yw q;rw[<-k]at B;unfold ew at U;have H:¬((i:Int)=(eh a:Int)):=Yv;have zE:(0:Int)<=(i:Int)+1:=Yv;have zF:(i:Int)+1<=(eh a:Int)+1:=Yv;have zG:((i:Int)+1).toNat=i+1:=Yv;have zH:((eh a:Int)+1).toNat=eh a+1:=Yv;have zI:(0:Int)<=(eh a:Int)+1:=Yv;have zJ:(eh a:Int)+1<=(c:Int):=Yv;have z:¬(c=i+1):=Yv;have h:¬(c=i):=Yv;have j:i<=eh a+1:=Yv;have t:(i:Int)<=(eh a:Int)+1:=Yv;have v:(i:Int)<=(eh a:Int):=Yv;have mixed:prog.follows .mixedOrders=bg:=Yr;have zK:IntKind.i64.wrap ((i:Int)+1)=(i:Int)+1:=G7;have zM:IntKind.i64.wrap ((eh a:Int)+1)=(eh a:Int)+1:=G7;clear m1 m2 m3 m4 m5 O zA h0 T Y C f q F E W V p Z u M G K k;rcases N with⟨rfl,rfl,rfl,rfl,rfl,rfl,rfl⟩|⟨rfl,rfl,rfl,rfl,rfl,rfl,rfl⟩
 all_goals
  delta D8;go_in;go_wp2_with (simp only[X])
  go_region_law_o (refine IB rfl _ _ _ _ rfl (C3 (an ⟨g,_,ba⟩) (eh a+1 -(i+1)) (c -(i+1))) (C3 (an ⟨g,_,ba⟩) (eh a+1 -i) (c -i)) J7 J7 (B 3 (c -(i+1)) (c -i)) ?_)
  go_wp2_with (at_builtin;refine He _ rfl _ _ _ _ rfl _ _ rfl rfl (J _ _) ?_);go_ret;exact⟨rfl,y⟩
theorem Wl{A:Type}{d:A->Zj}{fk fo q c:Nat}(hk:MV fk fo m q c bt zv)(Z:∀x,eh (d x)=c)(ha:∀l,∀u∈Ad d l,u.oneCell'=bg)(g f i:Nat)(a:List A)(x:A)(O:Nat){n:Nat}(M:eo w n m c (Yz g (eh a) f) (eh a) (Ad d a))(hl:eh a<=600)(hi:i<eh a)(K:f<eh a+1)(J:n<=w.1.size)(N:w.1[O]?=an (ca (ei (d x)) m (0,0))):
 D8 fk #[Yz g (eh a) f,Zg i,Yz O 1 1] w λe k=>∃G,e=C5 (Yz w.1.size (eh a+1) G)/\eo k n m c (Yz w.1.size (eh a+1) G) (eh a+1) (Ad d (a.take i++[x]++a.drop i))/\ep w k ba:=by
 obtain⟨i0,o,zK,H,V,u,zN,h0,R,zI⟩:=KG hk;have S:g<w.1.size:=(Ac M rfl).2;have zJ:=(A6.1 N).1;have zY:eh a<=f:=by
  rcases M.2 with⟨e,_⟩|⟨g',zP,zS,e,E,hg,h1,h2,h3,h4⟩
  .cases e
  cases e;exact h1
 have m1:(i+1) *c=i *c+c:=Nat.succ_mul i c;have m2:(i+1) *c<=eh a *c:=Nat.mul_le_mul_right c hi;have m3:(eh a -i) *c=eh a *c -i *c:=Nat.sub_mul _ _ _;have m5:(eh a+1) *c=eh a *c+c:=Nat.succ_mul _ _;have F:=BY Z a;have U:eh (Ad d [x])=c:=by rw[BY Z];simp
 have zF:eh ((Ad d a).drop (i *c))=(eh a -i) *c:=by rw[length_drop,F];omega
 have T:eh ((Ad d a).take (i *c))=i *c:=by rw[C0,F];omega
 have hold:(Builtin.firstCells i0.size i (Yz g i f)).run prog w.drew=.ok (ei ((Ad d a).take (i *c))) w.drew:=by
  rw[H];exact run_firstCells_some w.drew c i ⟨g,0,ba⟩ i f ((Ad d a).take (i *c)) T (λj v l=>by
   rw[A7,Ay];rw[getElem?_take]at l;split at l
   .exact(M.cellAt _ Yv).ag l
   cases l)
 have⟨G,X⟩:=Ag (grownCap w (eh a+1) f m);have⟨y,zO,zC⟩:∃y:Array Value,y=Value.cells zv/\y.size=c:=⟨_,rfl,zN⟩;have⟨I,W⟩:∃I:Zj,I=(Builtin.zeroCells y (eh a+1 -i)).toList++(Builtin.zeroCells y (G -(eh a+1))).toList:=⟨_,rfl⟩;have zE:eh a+1<=G:=by rw[X];exact grownCap_ge w _ _ _
 have D:G<=ew:=by rw[X];exact grownCap_le_maxLen w (eh a+1) f m Yo
 have m4:(eh a+1) *c<=G *c:=Nat.mul_le_mul_right c zE;have m6:(eh a+1 -i) *c=(eh a+1) *c -i *c:=Nat.sub_mul _ _ _;have m7:(G -(eh a+1)) *c=G *c -(eh a+1) *c:=Nat.sub_mul _ _ _;have zM:i *c+eh I=G *c:=by rw[W];simp[Builtin.zeroCells,zC];omega
 have zH:∀r,(Builtin.append_ #[q,3] r #[Yz g i f,Zg ((eh a:Int)+1 -(i:Int))]).run prog w=
  .ok (Yz w.1.size (eh a+1) G) (w.drew.alloc (ca (ei ((Ad d a).take (i *c)++I)) m)):=λr=>by
  have m8:(eh a+1 -i) *c<=601 *8:=Nat.mul_le_mul Yv zI;have m9:(eh a+1) *bt<=601 *32:=Nat.mul_le_mul Yv R;have mA:(eh a+1 -i) *bt<=601 *32:=Nat.mul_le_mul Yv R;have zG:i+(eh a+1 -i)=eh a+1:=Yv;have h:=Lib.run_append_grow_zeros (P:=prog) w q 3 r m i0 _ .i64 .i64 u underlying3 o zK (an ⟨g,0,ba⟩) i f ((Ad d a).take (i *c)) hold (eh a+1 -i) Yv (by rw[H];omega) Yv Yv (by rw[V];omega) (by rw[V,zG];exact growslice_fits K Yv);rw[zG,<-X,<-zO]at h;rw[show(eh a:Int)+1 -(i:Int)=((eh a+1 -i:Nat):Int) by omega,h,W];have e:ei ((Ad d a).take (i *c))++Builtin.zeroCells y (eh a+1 -i)++Builtin.zeroCells y (G -(eh a+1))=ei ((Ad d a).take (i *c)++((Builtin.zeroCells y (eh a+1 -i)).toList++(Builtin.zeroCells y (G -(eh a+1))).toList)):=by apply Array.toList_inj.1;simp
  rw[e]
 have⟨k,z⟩:=D6 w.drew (ei ((Ad d a).take (i *c)++I)) m;have p:k.1[w.1.size]?=an (ca (ei ((Ad d a).take (i *c)++I)) m (0,0)):=by rw[z];exact heap_alloc_new w.drew _
 have Y:∀j,j<G *c->(ek k (Zd (w.1.size) j)).isSome=bg:=λj l=>by simp only[cell?,p];rw[Ci (by simp[T];omega)];rfl
 have Q:∀j,el k ⟨w.1.size,j,ba⟩=bq:=λj=>by simp[frozen?,p]
 have hO:∀b,b<w.1.size->k.1[b]?=w.1[b]?:=λb E=>by rw[z];exact LQ w.drew _ E
 have zA:∀r C,(Builtin.copy_ #[q,q] r #[C3 (an ⟨w.1.size,i *c,ba⟩) (eh a+1 -i) C,Yz O 1 1]).run prog k=.ok (goInt (Nat.min 1 (eh a+1 -i))) (k.setCells w.1.size (i *c) (Ad d [x])):=λr C=>
  Fx k q q r m i0 c w.1.size (i *c) (eh a+1 -i) C ⟨O,0,ba⟩ 1 1 (Ad d [x]) u o H (by rw[U,show Nat.min 1 (eh a+1 -i)=1 from Nat.min_eq_left Yv,Nat.one_mul])
   (fun j v l=>by
     rw[A7,Ay,cell?_of_block (hO O zJ)];exact Sy N j v l)
   (λj l=>Y _ Yv) (λj _=>Q _) (ha _)
 obtain⟨B,s⟩:=Ag ((k.setCells w.1.size (i *c) (Ad d [x])).drew);have zB:∀r C L,(Builtin.copy_ #[q,q] r #[C3 (an ⟨w.1.size,(i+1) *c,ba⟩) (eh a+1 -(i+1)) C,C3 (an ⟨g,i *c,ba⟩) (eh a -i) L]).run prog B=.ok (goInt (Nat.min (eh a -i) (eh a+1 -(i+1)))) (B.setCells w.1.size ((i+1) *c) ((Ad d a).drop (i *c))):=λr C L=>
  Fx B q q r m i0 c w.1.size ((i+1) *c) (eh a+1 -(i+1)) C ⟨g,i *c,ba⟩ (eh a -i) L ((Ad d a).drop (i *c)) u o H (by rw[zF];congr 1;show _=min _ _;omega)
   (fun j v l=>by
     rw[getElem?_drop]at l;have:=(Zw l).1;rw[A7,s,Me,cell?_setCells_out _ _ _ _ _ (λh _=>absurd h (Nat.ne_of_lt S)),cell?_of_block (hO g S)];exact(M.cellAt _ Yv).ag l)
   (λj l=>by rw[s,Me];exact NB w.1.size (Ad d [x]) (i *c) k (λt l=>Y _ Yv) ((i+1) *c+j) (Y _ Yv)) (λj _=>by rw[s,Ps,frozen?_setCells];exact Q _) (λv N=>ha _ v (mem_of_mem_drop N))
 have r:eo (B.setCells w.1.size ((i+1) *c) ((Ad d a).drop (i *c))) n m c (Yz w.1.size (eh a+1) G) (eh a+1) (Ad d (a.take i++[x]++a.drop i))/\ep w (B.setCells w.1.size ((i+1) *c) ((Ad d a).drop (i *c))) ba:=by
  refine⟨?_,?_⟩
  .rw[Cd,Cd,<-Ls Z a i Yv,<-Ji Z a i Yv,s,<-NC];exact Ah (Wk (w:=k) F Yv U J p zM zE D) (Ae.drew)
  have s1:k.1.size=w.1.size+1:=by rw[z];simp
  have C:ep w k ba:=by rw[z];exact⟨rfl,rfl,rfl,Yu,λb E _=>LQ w.drew _ E⟩
  have L:ep k (B.setCells w.1.size ((i+1) *c) ((Ad d a).drop (i *c))) (an w.1.size):=by rw[s];exact Ai (Ai (Es w.1.size (Ad d [x]) (i *c) k) (QN _ _)) (Es w.1.size ((Ad d a).drop (i *c)) ((i+1) *c) _)
  exact⟨L.os.ag C.os,L.tape.ag C.tape,L.output.ag C.output,Zm C.size L.size,λb E _=>(L.block b Yv Yt).ag (C.block b E Yu)⟩
 have j:=Yw r;have l:=zB;rw[s]at l;have b:G<=9223372036854775807:=by unfold ew at D;omega
 have yC:¬((i:Int)=(eh a:Int)):=Yv;have yD:(f:Int)<(eh a:Int)+1:=Yv;have zZ:(0:Int)<=(i:Int)+1:=Yv;have yA:(i:Int)+1<=(eh a:Int)+1:=Yv;have yB:((i:Int)+1).toNat=i+1:=Yv;have t:¬(f=i):=Yv;have v:¬(G=i):=Yv;have zT:¬(G=i+1):=Yv;have zU:i<=eh a+1:=Yv;have zW:(i:Int)<=(eh a:Int)+1:=Yv;have zX:(i:Int)<=(eh a:Int):=Yv;have mixed:prog.follows .mixedOrders=bg:=Yr;have zV:i<=f:=Yv;have yE:IntKind.i64.wrap ((i:Int)+1)=(i:Int)+1:=G7;have yF:IntKind.i64.wrap ((eh a:Int)+1)=(eh a:Int)+1:=G7;have yG:IntKind.i64.wrap ((eh a:Int)+1 -(i:Int))=(eh a:Int)+1 -(i:Int):=G7;rw[<-z]at zH;clear m1 m2 m3 m4 m5 m6 m7 u zN h0 R zI M r N o zK V F U zF T hold X W zM p Y Q hO z S zJ;rcases hk with⟨rfl,rfl,rfl,rfl,rfl,rfl,rfl⟩|⟨rfl,rfl,rfl,rfl,rfl,rfl,rfl⟩
 all_goals
  delta D8;go_in
  go_wp2_with (first
   |(at_builtin;refine Lib.wpList_append_run _ rfl _ _ _ _ rfl _ _ rfl rfl _ _ (zH _) ?_)
   |(at_builtin;refine He _ rfl _ _ _ _ rfl _ _ rfl rfl (zA _ _) ?_))
  go_region_law_o (refine IB rfl _ _ _ _ rfl (C3 (an ⟨w.1.size,_,ba⟩) (eh a+1 -(i+1)) (G -(i+1))) (C3 (an ⟨g,_,ba⟩) (eh a -i) (f -i)) J7 J7 (l 3 (G -(i+1)) (f -i)) ?_)
  go_wp2;go_ret;rw[<-s];exact⟨G,rfl,j⟩
theorem Rv{A:Type}{k:A->Zj}{F p o E:Nat}{I:D4}(t:MV B F p H o E I)(m:∀x,eh (k x)=o)(r:∀l,∀u∈Ad k l,u.oneCell'=bg)(i:Nat)(c:List A)(x:A)(j:Nat){a:Nat}(n:eo w a p o P (eh c) (Ad k c))(v:eh c<=600)(Q:i<=eh c)(d:a<=w.1.size)(D:ej P≠an j)(y:w.1[j]?=an (ca (ei (k x)) p (0,0))):
 D8 B #[P,Zg i,Yz j 1 1] w λe q=>∃f,e=C5 f/\eo q a p o f (eh c+1) (Ad k (c.take i++[x]++c.drop i))/\ep w q (ej P)/\(ej f=ej P\/ej f=an w.1.size):=by
 rcases Cg i (eh c) with h|h
 .rcases n.2 with⟨e,m⟩|⟨g,l,J,e,C,O,K,L,M,N⟩
  .omega
  subst e;rcases Cg l (eh c+1)with s|s
  .refine Calls.mono (Wl t m r g l i c x j n v h s d y) ?_;rintro e q ⟨G,rfl,z,f⟩;exact⟨_,rfl,z,⟨f.os,f.tape,f.output,f.size,λb C _=>f.block b C Yu⟩,eb rfl⟩
  refine Calls.mono (Uf t m r g l i c x j n v h s (λe=>D I4) y) ?_;rintro e q ⟨rfl,z,f⟩;exact⟨_,rfl,z,f,dp rfl⟩
 obtain rfl:i=eh c:=Yv;rw[take_length,drop_length,append_nil];exact ZN t m r c x j n v d y
end
theorem ZO{g:Int}{u:List Kd}{f:List Pd}{F:List Ld}(n:Zi)(h:DU w j d m O P L C r g c u f F)(zG:∀k∈u,(k.sum.size:Int)=C)(M:AA u s)(hl:eh f<100)(E:f.Pairwise (fun a b=>less a.name b.name=bg))(zH:¬∃x∈f,x.name=n):
 Calls prog 136 #[Yy d,.string n,.string s] w fun e l=>e=.returned (.tuple #[])/\∃Z,DU l j d m O Z L C r g c u (Bn f n s) F/\Tn (d::(ej P).toList) w l:=by
 obtain⟨y,p,zC⟩:=Au h.U.de;subst zC;obtain⟨HN,HD,zB,N⟩:=Yw (EM h.U zG M),Yw h,Yw E,Yw zH;go_in;go_wp2_with fail;refine Calls.mono HN.o ?_;rintro e w1 ⟨rfl,H⟩;have Q:=HD.o.A H;have HS:=Yw (Kg n Q Yv zB.o);go_wp2_with fail;refine Calls.mono HS.o ?_;rintro e X ⟨i,rfl,V,R⟩;have J:bx (∃x,f[i]?=an x/\x.name=n)=bq:=by rw[decide_eq_false_iff_not];rintro⟨x,hx,hn⟩;exact N.o ⟨x,Zs hx,hn⟩
 have Y:Hid (Bn f n s=f.take i++[⟨n,s⟩]++f.drop i):=QL V N.o;have G:=Q.A R;obtain⟨HB,c6,_⟩:=Yw (H.trans (R.mono H.size)),G.U.box 6 _ rfl;obtain⟨A,W⟩:∃A,A=X.alloc (ca #[.string n,.string s] 81):=⟨_,rfl⟩;have a:=(Ax W).1;have v:=G.A a;obtain⟨q,zA,zF⟩:=Yw v,Yw a,V.le;have D:=Rv (dp ⟨rfl,rfl,rfl,rfl,rfl,rfl,rfl⟩) EC Sj i f ⟨n,s⟩ X.1.size v.U.de Yv zF v.lo (fun e=>Nat.lt_irrefl _ (Ac G.U.de e).2) (by rw[W];exact heap_alloc_new X _);obtain⟨HI,HA,e6,_⟩:=Yw D,Yw W,v.U.box 6 _ rfl;rw[J];go_wp2_with fail;rw[<-HA.o];refine Calls.mono HI.o ?_;rintro e I ⟨Z,rfl,U,S,l⟩;obtain⟨z,B,zE⟩:=Au U;subst zE;have T:∀b,ej (Value.slice y (eh f) p)=an b->b≠d:=fun b t=>((Dv q.o.U.ap).2.2.1 b t).1;have K:∀b,ej (Value.slice z (eh f+1) B)=an b->b≠d:=fun b t=>by
  rcases l with l|l
  .exact T b (l▸t)
  rw[l]at t;have:=q.o.U.box.lt;cases t;omega
 have o:=Aa.same q.o.U.box (S.block d q.o.U.box.lt (fun e=>T d e.symm rfl));obtain⟨f6,k6⟩:=o 6 _ rfl;have hK:∃k,DU (ev I (Zd d 6) (cr z (eh f+1) B)) j d m O k L C r g c u (Bn f n s) F/\Tn (d::(ej (Value.slice y (eh f) p)).toList) w (ev I (Zd d 6) (cr z (eh f+1) B)):=by
  have k:Tn (d::(ej (Value.slice y (eh f) p)).toList) A (ev I (Zd d 6) (cr z (eh f+1) B)):=
   ((Du S).mono (fun b t=>List.mem_cons_of_mem _ t)).trans ((AX I d 6 _).mono Yu)
  refine⟨_,q.o.iy k (o.set 6 _) ?_ ?_,((Tn.of HB.o).trans (Tn.of zA.o)).trans k⟩
  .have hlen:eh (Bn f n s)=eh f+1:=(by rw[Y.o];simp;omega);rw[hlen,Y.o];exact BM U K 6 _
  rcases l with l|l
  .exact dp l
  exact eb ⟨_,l,Zx⟩
 have t:=Yw hK;go_wp2;go_end0;exact⟨rfl,t.o⟩
theorem Sz(w:Zh)(x:Kd)(g c:Nat):∀j u,(kC (x,Yz g (eh x.D) c))[j]?=an u->ek (w.alloc (ca #[C4 x.sum,Zg x.born,C4 x.i,Yz g (eh x.D) c] 78)) ((⟨w.1.size,0,ba⟩:Addr).add j)=an u:=by intro j u a;rw[A7,Ay];exact((Aa.new w (kC (x,C6 g x.D c)) 78) j u a).1
theorem Wm(x:Kd)(g c:Nat):∀u∈kC (x,Yz g (eh x.D) c),u.oneCell'=bg:=by intro u a;simp[kC]at a;rcases a with rfl|rfl|rfl|rfl<;>rfl
theorem Abv{a:Nat}{n:Nat}{b:Zj}(h:eo w a e size v n b)(c:0<n):v≠Zb:=by
 intro e;subst e;rcases h.2 with⟨_,d⟩|⟨_,_,_,e,_⟩
 .omega
 cases e
def EY(w:Zh)(aa:Addr)(ks:List Kd):Prop:=∀(i:Nat) (k:Kd),ks[i]?=an k->∃ad rc,ek w (Zd (aa.block) (aa.off+i *4+3))=an (cr (an ad) (eh k.D) rc)
theorem AW.same''{g:Zh}{i e d:Int}{T:D4}(h:AW w b i f e d T P L)(r:g.1[b]?=w.1[b]?)(s:b<g.1.size):AW g b i f e d T P L:=by obtain⟨k,l,m,n,o,p,q,t⟩:=h;have c:=λj=>cell?_of_block (a:=⟨b,j,ba⟩) r;exact⟨(c 0).ag k,(c 1).ag l,(c 2).ag m,(c 3).ag n,(c 4).ag o,(c 5).ag p,(c 6).ag q,s⟩
def FY(w:Zh)(aa:Addr)(ks:List Kd):Prop:=∀(i:Nat) (k:Kd),ks[i]?=an k->∀rc,ek w (Zd (aa.block) (aa.off+i *4+3))=an (cr ba (eh k.D) rc)->rc=0
theorem EY.cp{A:Addr}{b:C9}(h:EY w A b):FY w A b:=λi k d a a=>by have⟨f,e,c⟩:=h i k d;rw[c]at a;cases a
structure KH (w wr:Zh) (k tg tc:Nat) (rs:Zj) (wd now given births:Int) (A P L:Value) (ks:List Kd):Prop where
 o:Aa wr (w.1.size+1+1) [Zg wd,Zg now,Zg given,Zg births,cr (an ⟨tg,0,ba⟩) k tc,P,L]
 gh:Aa wr (w.1.size+1) z7
 box:AW wr w.1.size wd now given births A P L
 ak:eo wr (w.1.size+3) 78 4 (cr (an ⟨tg,0,ba⟩) k tc) k (Ad kC ((ks.take k).zip rs))
 len:eh rs=k
 D:∀(i:Nat) (x:Kd) (r:Value),(ks.take k)[i]?=an x->rs[i]?=an r->eo wr (w.1.size+3) 9 1 r (eh x.D) (x.D.map Value.string)
 all:∀v∈rs,∃g n c,v=Value.slice (an ⟨g,0,ba⟩) n c
 nd:(tg::rs.filterMap Value.ownBlock).Nodup
 cn:bs w.1.size w wr
theorem KH.step{wr U t C:Zh}{s tc:Nat}{B:Zj}{W S d:Int}{A:D4}{q:C9}{x:Kd}{u p:Nat}(h:KH w wr k s tc B W S l d A P L q)(V:q[k]?=an x)(bU:Zz wr U)(b3:Zz U t)(N:eo t U.1.size 9 1 (Yz u (eh x.D) G) (eh x.D) (x.D.map Value.string))(o:ep t C (an s))(zA:eo C (w.1.size+3) 78 4 (Yz p (k+1) D) (k+1) (Ad kC ((q.take k).zip B)++kC (x,Yz u (eh x.D) G)))(J:p=s\/t.1.size<=p):KH w (ev C (Zd (w.1.size+1+1) 4) (Yz p (k+1) D)) (k+1) p D (B++[Yz u (eh x.D) G]) W S l d A P L q:=by
 have zE:=(Zw V).1;have R:q.take (k+1)=q.take k++[x]:=by obtain⟨_,rfl⟩:=Zw V;exact gA
 obtain⟨zG,l3,zI,zH,zF⟩:=Ac h.ak (g:=s) rfl,Ac N (g:=u) rfl,bU.size,b3.size,h.o.lt;have m:bs wr.1.size wr t:=gB;have Q:∀b,b<t.1.size->b≠s->b≠w.1.size+1+1->(ev C (Zd (w.1.size+1+1) 4) (Yz p (k+1) D)).1[b]?=t.1[b]?:=λb E c f=>(Below.heap_setCell _ _ _ _ Yv).ag (o.block b E (λe=>c (A8 e)));have n:∀b,b<wr.1.size->b≠s->b≠w.1.size+1+1->(ev C (Zd (w.1.size+1+1) 4) (Yz p (k+1) D)).1[b]?=wr.1[b]?:=λb E c f=>(Q b Yv c f).ag (m.block b E);have K:eh (q.take k)=k:=Yt;have T:∀r∈B,∀g,ej r=an g->w.1.size+3<=g/\g<wr.1.size:=by
  intro r j g c;obtain⟨i,I⟩:=A9 j;have zC:i<k:=by have:=(Zw I).1;have:=h.len;omega
  exact Ac (h.D i _ r (Zv Yv) I) c
 have Z:∀r∈B,∀g,ej r=an g->g≠s:=λr j g c e=>(List.nodup_cons.1 h.nd).1 (e▸List.mem_filterMap.2 ⟨r,j,c⟩);refine⟨?_,?_,?_,?_,by simp[h.len],?_,?_,?_,?_⟩
 .have E:Aa C (w.1.size+1+1) _:=Aa.same (Aa.A h.o m) (o.block _ Yv (λe=>Dl (A8 e)));exact Aa.set E 4 _
 .exact Aa.same h.gh (n _ Yv Yv Yv)
 .exact AW.same'' h.box (n _ Yv Yv Yv) (by simp;have:=o.size;omega)
 .rw[R,List.zip_append (by rw[K,h.len]),Cd];exact BM zA (λg c=>by simp[Value.ownBlock]at c;omega) 4 _
 .intro i y r z j;rw[R]at z;have zB:=h.len;rcases Cg i k with I|I
  .rw[List.getElem?_append_left Yv]at z j;have f:=Zs j;exact Ar (h.D i y r z j) (λg c=>n g (T r f g c).2 (Z r f g c) (Dl (T r f g c).1))
  have Y:i=k:=gG;subst Y;rw[List.getElem?_append_right Yv,K,Nat.sub_self]at z;rw[List.getElem?_append_right Yv,zB,Nat.sub_self]at j;simp at z j;subst z;subst j;exact Ar (World.ownsRow.ai N Yv) (λg c=>by simp[Value.ownBlock]at c;subst c;exact Q _ l3.2 Yv Yv)
 .intro v F;rcases Bw.1 F with F|F
  .exact h.all v F
  simp at F;exact gA
 .rw[List.filterMap_append];have X:List.filterMap Value.ownBlock [C6 u x.D G]=[u]:=by simp[Value.ownBlock]
  rw[X];have O:∀b∈B.filterMap Value.ownBlock,b<wr.1.size:=gB;have M:=List.nodup_cons.1 h.nd;refine List.nodup_cons.2 ⟨?_,?_⟩
  .intro f;rcases Bw.1 f with f|f
   .rcases J with rfl|H
    .exact M.1 f
    have:=O _ f;omega
   simp at f;have:=o.size;rcases J with H|H<;>omega
  refine List.nodup_append.2 ⟨M.2,Yu,λa H b b e=> ?_⟩;simp at b;have:=O a H;omega
 exact(((h.cn.ag (m.ai h.cn.size)).grown o Yv (λg c=>by cases c;omega))).setCell Yt _
theorem GL{P:Program}(w:Zh){B:Array Oper}{o:Oper}{a:Act}{Q:Exit->Act->Zh->Prop}(y:o.guard=ba)(s x:Operand)(t:TypeId)(E:o.op=.call {callee:=.builtin .append,args:= #[s,x],argTypes:= #[t,t]})(base:Nat)(e:TypeId)(i:TypeInfo)(z:D4)(size bytes:Nat)(G:P.underlying t=an (.slice e))(D:P.info? e=an i)(O:i.zero=an z)(k:i.size=size)(J:i.bytes=bytes)(L:z.cells.size=size)(K:0<size)(v:D4)(n:Nat)(q:Zj)(F:a.eval s=v)(d:eo w base e size v n q)(p:Zk)(m c:Nat)(news:Zj)(H:a.eval x=C3 p m c)(r:p=ba->m=0/\c=0)(N:eh news=m *size)(g:∀A,p=an A->∀j u,news[j]?=an u->ek w (A.add j)=an u)(M:∀u∈news,u.oneCell'=bg)(I:n+m<=ew)(b:(n+m) *bytes<=140737488355328)(f:base<=w.1.size)(h:∀l C,eo C base e size l (n+m) (q++news)->ep w C (ej v)->(l=Zb↔v=Zb/\m=0)->(ej l=ej v\/ej l=an w.1.size)->wpList P B Q rest (a.put o.dst l) C):
 wpList P B Q (o::rest) a w:=by
 cases p with
 |some A=>exact wpList_append_own_at w y s x t E base e i z size bytes G D O k J L K v n q F d A m c news H N (g A rfl) M I b f h
 |none=>obtain⟨rfl,rfl⟩:=r rfl;have l:news=[]:=gA;subst l;have C:(Builtin.append_ #[t,t] o.type #[v,Zb]).run P w=.ok v w:=run_append_owned_none (P:=P) w base t o.type e i size G D v n q d;exact wpList_append_run y s x t t E F H C (h v w Yt ⟨rfl,rfl,rfl,Zx,λ_ _ _=>rfl⟩ Yu (dp rfl))
theorem AS.fw{a:Zk}{d:Db}(h:AS w B a d){A:Addr}(c:a=an A):∀j u,(Ad pC d)[j]?=an u->ek w (A.add j)=an u:=by
 rcases h with h|⟨b,f,e,g,i⟩
 .subst h;intro j u k;simp[Ad]at k
 rw[e]at c;cases c;exact AS.fg (B:=B) (eb ⟨b,f,rfl,g,i⟩)
theorem AR.fw{a:Zk}{d:Da}(h:AR w B a d){A:Addr}(c:a=an A):∀j u,(Ad lC d)[j]?=an u->ek w (A.add j)=an u:=by
 rcases h with h|⟨b,f,e,g,i⟩
 .subst h;intro j u k;simp[Ad]at k
 rw[e]at c;cases c;exact AR.fg (B:=B) (eb ⟨b,f,rfl,g,i⟩)
theorem FK(M C d a:Int){sa L H:Zk}(ac Q O:Nat){m:C9}{f:Db}{s:Da}(y:Bo w w.1.size sa L H m f s)(l:∀A,sa=an A->FY w A m)(xD:L=ba->Q=0)(yY:H=ba->O=0)(hk:eh m<=600)(hp:eh f<=100)(hl:eh s<=200)(zJ:∀k∈m,eh k.D<=30):
 Calls prog 46 #[ct (Yg M C d a sa (eh m) ac L (eh f) Q H (eh s) O)] w λe B=>∃T z t R,e=C5 (ct #[Zg M,Zg C,Zg d,Zg a,T,z,t])/\Be B w.1.size T z t R m f s/\(∀v∈T::z::t::R,∃g n c,v=Yz g n c)/\Zz w B:=by
 obtain⟨W,t⟩:=Ag ((((w.alloc (ca (C8 M C d a sa m ac L f Q H s O) 30)).alloc (ca Yi 30)).alloc (ca (Yg M C d a (an ⟨w.1.size+1+1+1,0,ba⟩) 0 0 L (eh f) Q H (eh s) O) 30)).alloc (ca #[] 78));have hB:=(al4 t).1;have D:=(al4 t).2.1;have G:AW W w.1.size M C d a (C2 sa m ac) (C2 L f Q) (C2 H s O):=by rw[t];exact⟨by simp[go_sem],by simp[go_sem],by simp[go_sem],by simp[go_sem],by simp[go_sem],by simp[go_sem],by simp[go_sem],Yt⟩
 have zR:Aa W (w.1.size+1) z7:=by intro j v K;have hj:j<7:=(Zw K).1;rw[t];rcases(show j=0\/j=1\/j=2\/j=3\/j=4\/j=5\/j=6 by omega)with rfl|rfl|rfl|rfl|rfl|rfl|rfl<;>(simp[z7]at K;subst K;simp[go_sem])
 have I:Aa W (w.1.size+1+1) (Yh M C d a (an ⟨w.1.size+1+1+1,0,ba⟩) 0 0 L (eh f) Q H (eh s) O):=by intro j v K;have hj:j<7:=(Zw K).1;rw[t];rcases(show j=0\/j=1\/j=2\/j=3\/j=4\/j=5\/j=6 by omega)with rfl|rfl|rfl|rfl|rfl|rfl|rfl<;>(simp at K;subst K;simp[go_sem])
 have F:eo W (w.1.size+3) 78 4 (Yz (w.1.size+1+1+1) 0 0) 0 (Ad kC []):=by have:=World.ownsRow_lit (base:=w.1.size+3) (e:=78) (size:=4) (((w.alloc (ca (C8 M C d a sa m ac L f Q H s O) 30)).alloc (ca Yi 30)).alloc (ca (Yg M C d a (an ⟨w.1.size+1+1+1,0,ba⟩) 0 0 L (eh f) Q H (eh s) O) 30)) #[] 0 Yu Yo rfl;rw[<-t]at this;simpa [Ad]using this
 obtain⟨B,E,yP,z⟩:=Yw (Zn y l),Yw t,Yw D,Yw (Zn I (Zn zR (Zn G F)));clear t y l I zR G F D;go_in;go_upto_region 3 with fail;rw[<-E.o];clear E;go_wp2;go_loopw [4] (λi wr=>∃(k S tc:Nat) (R:Zj),k<=eh m/\i=Zg k/\Hid (KH w wr k S tc R M C d a (C2 sa m ac) (C2 L f Q) (C2 H s O) m)) (λi _=>eh m -(intOf i).toNat)
 case atStart=>exact⟨0,w.1.size+1+1+1,0,[],Aq _,rfl,⟨z.o.1,z.o.2.1,z.o.2.2.1,z.o.2.2.2,rfl,(λi x r hx=>by simp at hx),(λv K=>by simp at K),Yu,hB⟩⟩
 clear z;obtain⟨k,S,tc,R,xP,rfl,E⟩:=hrel;have G:=E.o.cn;obtain⟨T,c,u,x2,x3,x4,x5,x6,Z⟩:=G.size,E.o.box;by_cases n:k<eh m
 .obtain⟨ab,ao,ha,hb,t⟩:=(Br.A B.o.1.k G).at n;subst ha;have HG:Hid (m[k]?=an m[k]):=Zv n;obtain⟨V,X,Y,ra,rc,N,l⟩:=t k _ HG.o;have yH:Hid (ra=ba->eh m[k].D=0/\rc=0):=λe=>by
   subst e;refine⟨?_,B.o.2 _ rfl k _ HG.o rc ((G.cell (p:=⟨ab,ao+k *4+3,ba⟩) hb).symm.ag N)⟩;rcases l with h|⟨_,_,h,_⟩
   .rw[h];rfl
   cases h
  have xL:=zJ _ (List.getElem_mem n);have xN:ab<wr.1.size:=Yv;have yL:=Yw (Ab.ai l T);clear t l;generalize m[k]=x at *
  obtain⟨U,y⟩:=D6 wr #[C4 x.sum,Zg x.born,C4 x.i,C2 ra x.D rc] 78;obtain⟨t,I,z,⟨i0,hi,xG,xH,xI⟩,l⟩:=(Ax y).1,(Ax y).2.1,(Ax y).2.2,info_parts Hx,yP.o;have J:w.1.size+4<=wr.1.size\/True:=eb trivial;have yZ:w.1.size+1+1<wr.1.size:=E.o.o.lt;obtain⟨zC,HU,D⟩:=Ac E.o.ak (g:=S) rfl,Yw y,Aa.A E.o.o t;have u4:=(D 4 _ rfl).1;obtain⟨k0,k1,k2,k3⟩:=Aa.c4 z 0 1 2 3;have F:=Ah E.o.ak t;obtain⟨HT,HS,zM,yN,yO⟩:=Yw F,Yw D,Yw z,Yw t,Yw I;have yK:Hid (Ab U.drew U.drew.1.size ra x.D):=Ab.ai (Ab.A yL.o t.drew) t.size;have xE:eh x.D<=1048576:=Yv;have zG:¬w.1.size+1+1=wr.1.size:=Yv;clear y F D z t I l J;go_upto_region 7 with fail;rw[<-HU.o];clear HU c u x2 x3 x4 x5 x6 Z V X Y N
  go_region_law (first
   |(go_simp;go_at_call 84;refine(Gz x.i rc yK.o yH.o xE).ai ?_;rintro e y ⟨V,N,rfl,I,t⟩;have F:bs U.1.size U y:=⟨t.os,t.tape,t.output,t.size,t.block⟩;have z3:=F.size;have J:=Aa.A HS.o F;have n4:=(J 4 _ rfl).1;obtain⟨m0,_⟩:=Aa.A zM.o F 0 _ rfl;obtain⟨m1,_⟩:=Aa.A zM.o F 1 _ rfl;have X:bs y.1.size y (y.alloc (ca #[C4 x.sum,Zg x.born,C4 x.i,C6 V x.D N] 78)):=Zy;have q:=(Aa.A J X 4 _ rfl).1;have l:=yO.o;obtain⟨v5,w5,hr5,ho5,hg5,_,ha5⟩:=run_append_own_at (P:=prog) (y.alloc (ca #[C4 x.sum,Zg x.born,C4 x.i,C6 V x.D N] 78)) (w.1.size+3) 26 26 78 i0 _ 4 64 underlying26 hi xG xH xI rfl Yq _ k _ (Ah (Ah HT.o F) X) ⟨y.1.size,0,ba⟩ 1 1 (kC (x,C6 V x.D N)) rfl (Sz y x V N) (Wm x V N) Yo Yv Yt;obtain⟨g4,c4,rfl,hg4a,hg4b⟩:=BK ho5 (Abv ho5 Yv);have o:=Ac I (g:=V) rfl;have D:ep y w5 (an S):=Ai (Af _ X) hg5;have z:g4=S\/y.1.size<=g4:=ha5.imp (λe=>by simpa [Value.ownBlock]using e) (λe=>by simp[Value.ownBlock]at e;omega);have Y:w5.1[w.1.size+1+1]?=(y.alloc (ca #[C4 x.sum,Zg x.born,C4 x.i,C6 V x.D N] 78)).1[w.1.size+1+1]?:=hg5.block _ Yt (by simp[Value.ownBlock];omega);have Z:=Aa.same (Aa.A J X) Y;have y5:=(Z 4 _ rfl).1;have f5:=(Z 4 _ rfl).2;clear l;go_wp2_with fail)
   |(refine Bu Yp (.tmp 22) (.tmp 31) 26 26 Yp Yp Yp hr5 ?_))
  all_goals
   have HF:Hid (KH w _ (k+1) g4 c4 (R++[C6 V x.D N]) M C d a (C2 (an ⟨ab,ao,ba⟩) m ac) (C2 L f Q) (C2 H s O) m):=KH.step E.o HG.o yN.o F I D ho5 z;clear I t F z3 J n4 m0 m1 X q hr5 ho5 hg5 ha5 D z hg4a hg4b o Y Z y5 f5 u4 k0 k1 k2 k3;go_wp2;exact⟨⟨k+1,g4,c4,R++[C6 V x.D N],Yv,Yn,HF⟩,Ys⟩
 obtain rfl:k=eh m:=Yv;have t:=E.o;obtain⟨zC,yZ,⟨ip,yU,xA,xB,xC⟩,il,yT,yV,yW,yX⟩:=Ac t.ak (g:=S) rfl,t.o.lt,info_parts Hq,info_parts Iv;have bP:bs wr.1.size wr (wr.alloc (ca #[] 81)):=Zy;have D:=(t.o 5 _ rfl);have zG:¬w.1.size+1+1=wr.1.size:=Yv;have z:AS wr wr.1.size L f:=AS.ai (AS.A B.o.1.p G) T;have yM:=Yw z;have yJ:Hid (L=ba->eh f=0):=λe=>by
  rcases B.o.1.p with h|⟨q,o,h,_⟩
  .rw[h];rfl
  rw[e]at h;cases h
 have yG:Hid (H=ba->eh s=0):=λe=>by
  rcases B.o.1.l with h|⟨q,o,h,_⟩
  .rw[h];rfl
  rw[e]at h;cases h
 clear t c u x2 x3 z D;go_wp2_with (first
  |(at_builtin;refine GL _ rfl _ _ 27 rfl (w.1.size+3) 81 ip _ 2 32 underlying27 yU xA xB xC rfl Yq _ 0 (Ad pC []) rfl ?d0 L (eh f) Q (Ad pC f) rfl ?dn ?d1 ?d2 ?d3 ?d4 ?d5 ?d6 ?_)
  |go_in)
 case d0=>exact World.ownsRow_lit (base:=w.1.size+3) (e:=81) (size:=2) wr #[] 0 Yv Yo rfl
 case dn=>exact λe=>⟨yJ.o e,xD e⟩
 case d1=>exact BY EC f
 case d2=>exact λA hA=>AS.fw (AS.A yM.o bP) hA
 case d3=>exact Sj f
 case d4=>unfold ew;omega
 case d5=>omega
 case d6=>simp;omega
 intro v1 z Y c zW zE;obtain⟨t,D,rfl,xK,zH⟩:=BK Y zW;rw[show Ad pC []=[]from rfl,List.nil_append]at Y;have Z:bs wr.1.size wr z:=bP.grown c Yu (λq l=>by simp[Value.ownBlock]at l;omega);have z1:=Z.size;have S1:=Aa.A E.o.o Z;obtain⟨⟨s5,f5⟩,_,_,_,_,_,_,z6,_⟩:=S1 5 _ rfl,AW.A E.o.box Z;have yA:wr.1.size<=t:=by
  rcases(Ac Y (g:=t) rfl)with⟨X,h2⟩;have:=c;rcases Cg t wr.1.size with h|h
  .exfalso;have hb:=Z.block t h;rcases Y.2 with⟨e,_⟩|⟨q,cq,xM,e,_,l,_⟩
   .cases e
   cases e;exact absurd h (by rcases zE with hh|hh<;>simp[Value.ownBlock]at hh<;>omega)
  exact h
 have S2:=Aa.set S1 5 (C6 t f D);have yQ:(ev z (Zd (w.1.size+1+1) 5) (C6 t f D)).1.size=z.1.size:=Yu;have g:AR z z.1.size H s:=AR.ai (AR.A B.o.1.l (G.ag (Z.ai T))) Yv;have bL:bs z.1.size z z:=Below.refl _ _;have zN:Hid (∀A,H=an A->∀j u,(Ad lC s)[j]?=an u->ek ((ev z (Zd (w.1.size+1+1) 5) (C6 t f D)).alloc (ca #[] 83)) (A.add j)=an u):=by
  intro A hA j u hu;rcases B.o.1.l with h|⟨lb,lo,e,n,_⟩
  .subst h;simp[Ad]at hu
  rw[e]at hA;cases hA;have X:=AR.fw g e j u hu;rw[A7]at X |-;rw[World.cell?_of_block (Below.heap_alloc _ _ _ Yt),World.cell?_of_block (Below.heap_setCell _ _ _ _ Yt)];exact X
 obtain⟨yI,zP,zK⟩:=Yw Y,Yw S2,Yw Z;have yE:¬w.1.size+1+1=z.1.size:=Yv;have yF:¬w.1.size=w.1.size+1+1:=Yv
 clear Y c zW Z S1 S2 x5 x6 x4 g bL;go_wp2_with (first
  |(at_builtin;refine GL _ rfl _ _ 28 rfl (w.1.size+3) 83 il _ 3 32 underlying28 yT yV yW yX rfl Yq _ 0 (Ad lC []) rfl ?e0 H (eh s) O (Ad lC s) rfl ?en ?e1 ?e2 ?e3 ?e4 ?e5 ?e6 ?_)
  |go_in)
 case e0=>
  have:=World.ownsRow_lit (base:=w.1.size+3) (e:=83) (size:=3) (ev z (Zd (w.1.size+1+1) 5) (C6 t f D)) #[] 0 Yt Yo rfl;rw[yQ]at this;exact this
 case en=>exact λe=>⟨yG.o e,yY e⟩
 case e1=>exact BY DW s
 case e2=>exact zN.o
 case e3=>exact VP s
 case e4=>unfold ew;omega
 case e5=>omega
 case e6=>simp;omega
 intro v3 y I zT zX c;obtain⟨Z,zA,rfl,xJ,zF⟩:=BK I zX;rw[show Ad lC []=[]from rfl,List.nil_append]at I;have F:bs z.1.size (ev z (Zd (w.1.size+1+1) 5) (C6 t f D)) y:=by have h0:bs z.1.size (ev z (Zd (w.1.size+1+1) 5) (C6 t f D)) ((ev z (Zd (w.1.size+1+1) 5) (C6 t f D)).alloc (ca #[] 83)):=Ae.alloc Yu _;exact h0.grown zT Yu (λq l=>by simp[Value.ownBlock]at l;omega)
 have z3:z.1.size<=y.1.size:=by have:=F.size;simpa using this
 have zV:z.1.size<=Z:=by rcases c with hh|hh<;>simp[Value.ownBlock]at hh<;>omega
 have zI:t<z.1.size:=zH;have J:Aa y (w.1.size+1+1) _:=Aa.same zP.o (F.block _ Yv);obtain⟨S4,⟨r6,f6⟩,r0,r1,r2,r3,r4,r5⟩:=Aa.set J 6 (C6 Z s zA),J 6 _ rfl,(J 0 _ rfl).1,(J 1 _ rfl).1,(J 2 _ rfl).1,(J 3 _ rfl).1,(J 4 _ rfl).1,(J 5 _ rfl).1;have Y:∀q,q<wr.1.size->q≠w.1.size+1+1->y.1[q]?=wr.1[q]?:=λq X h2=>((F.block q Yv).ag (Below.heap_setCell _ _ _ _ (D2 h2))).ag (zK.o.block q X);have R3:Aa y (w.1.size+1) z7:=Aa.same E.o.gh (Y _ Yv Yv);obtain⟨⟨y0,q0⟩,⟨y1,q1⟩,⟨y2,q2⟩,⟨y3,q3⟩,⟨y4,q4⟩,⟨y5,q5⟩,y6,q6⟩:=Lu R3;have yD:¬w.1.size+1+1=w.1.size+1:=Yv;have zZ:∀q,ej (C6 t f D)=an q->t=q:=λq l=>by simpa [Value.ownBlock]using l
 have g:eo y (w.1.size+3) 81 2 (C6 t f D) (eh f) (Ad pC f):=Ar (BM (b:=w.1.size+1+1) yI.o (λq l=>Dl (zZ q l)) 5 (C6 t f D)) (λq l=>(zZ q l)▸F.block t zI);have H3:=Yw (Zn I (Zn g (Zn Y (Zn F (Zn zV (Zn yA z3))))));clear I zT zX c g Y F J S4 R3 z6 s5 f5 zN zP;go_wp2;obtain⟨I,g,Y,F,zV,yA,z3⟩:=H3.o;have hX:∀q,q<y.1.size->q≠w.1.size+1+1->q≠w.1.size+1->((ev (ev (ev (ev (ev (ev (ev (ev y (Zd (w.1.size+1+1) 6) (C6 Z s zA)) (Zd (w.1.size+1) 0) (Zg M)) (Zd (w.1.size+1) 1) (Zg C)) (Zd (w.1.size+1) 2) (Zg d)) (Zd (w.1.size+1) 3) (Zg a)) (Zd (w.1.size+1) 4) (C6 S m tc)) (Zd (w.1.size+1) 5) (C6 t f D)) (Zd (w.1.size+1) 6) (C6 Z s zA))).1[q]?=y.1[q]?:=λq _ h2 J=>by
  rw[Below.heap_setCell _ _ _ _ (D2 J),Below.heap_setCell _ _ _ _ (D2 J),Below.heap_setCell _ _ _ _ (D2 J),Below.heap_setCell _ _ _ _ (D2 J),Below.heap_setCell _ _ _ _ (D2 J),Below.heap_setCell _ _ _ _ (D2 J),Below.heap_setCell _ _ _ _ (D2 J),Below.heap_setCell _ _ _ _ (D2 h2)]
 have xF:m.take (eh m)=m:=Zt (Zx);obtain⟨zS,c,yS,yR⟩:=E.o.ak,E.o.D,E.o.nd,E.o.len;rw[xF]at zS c;have zB:∀r∈R,∀q,ej r=an q->w.1.size+3<=q/\q<wr.1.size:=by intro r J q l;obtain⟨i,hi⟩:=A9 J;have xO:=(Zw hi).1;exact Ac (c i m[i] r (Zv Yv) hi) l
 have yC:∀q,q<wr.1.size->w.1.size+3<=q->_:=λq X h2=>(hX q Yv Yv Yv).ag (Y q X Yv);refine C1 (ct (C8 M C d a (an ⟨S,0,ba⟩) m tc (an ⟨t,0,ba⟩) f D (an ⟨Z,0,ba⟩) s zA)) (by simp[results,results46,go_sem,y0,y1,y2,y3,y4,y5,y6]) ⟨_,_,_,R,rfl,⟨yR,?_,?_,?_,?_,?_⟩,?_,?_⟩
 .exact(Ar zS (fun q l=>by have e:S=q:=M6
                           rw[<-e];exact yC S zC.2 zC.1)).ai Yv
 .intro i x r hx J;have hm:=Zs J;exact(Ar (c i x r hx J) (λq l=>yC q (zB r hm q l).2 (zB r hm q l).1)).ai Yv
 .exact(Ar g (fun q l=>by have e:t=q:=M6
                          rw[<-e];exact hX t Yv Yv Yv)).ai Yv
 .exact(Ar I (fun q l=>by have e:Z=q:=M6
                          rw[<-e];exact hX Z zF Yv Yv)).ai Yv
 .rw[FG];unfold BP;have zY:=List.nodup_cons.1 yS;have yB:∀q∈R.filterMap Value.ownBlock,q<wr.1.size:=λq l=>by obtain⟨r,J,l⟩:=List.mem_filterMap.1 l;exact(zB r J q l).2
  simp only[Value.ownBlock,Option.toList_some,List.cons_append,List.nil_append,List.nodup_cons,Cf,not_or];refine⟨⟨Yv,Yv,zY.1⟩,⟨Yv,λh=>Dl (yB _ h)⟩,λh=>Dl (yB _ h),zY.2⟩
 .intro v K;simp only[Cf]at K;rcases K with rfl|rfl|rfl|K
  .exact⟨_,_,_,rfl⟩
  .exact⟨_,_,_,rfl⟩
  .exact⟨_,_,_,rfl⟩
  exact E.o.all v K
 have X:bs w.1.size w y:=by have h0:=G.ag (zK.o.ai T);exact(h0.setCell Yt _).ag (F.ai Yv)
 exact FU (X.setCell (p:=⟨w.1.size+1+1,6,ba⟩) Yt _) Yv _ _ _ _ _ _ _
theorem Jm(x j b a:Int)(l o m:Zk)(y u t:Nat)(d:C9)(i:Db)(h:Da)(w:Zh)(q:Bo w w.1.size l o m d i h)(f:∀A,l=an A->EY w A d)(D:o=ba->u=0)(C:m=ba->t=0)(E:eh d<=600)(G:eh i<=100)(F:eh h<=200)(p:∀k∈d,eh k.D<=30):
 D8 46 #[ct (Yg x j b a l (eh d) y o (eh i) u m (eh h) t)] w λe B=>∃T s r z,e=C5 (ct #[Zg x,Zg j,Zg b,Zg a,T,s,r])/\Be B w.1.size T s r z d i h/\(∀v∈T::s::r::z,∃g n c,v=Yz g n c)/\Zz w B:=
 FK x j b a y u t q (λA r=>(f A r).cp) D C E G F p
theorem AM{P:Program}{e:Func}{p:Tmp}{c:TypeId}(h:e.results= #[.cell p c])(tmps:Array Value)(w:Zh)(b:Nat)(a:Zj)(d:TypeDesc)(l:tmps.getD p undef=Yy b)(g:w.rangeAt b 0 a)(k:P.underlying c=an d)(i:d.isRow=bg)(j:(P.info? c).map (·.size)=an (eh a)):
 (results e tmps).run P w=.ok (ct (ei a)) w:=by
 have f:tmps[p]?.getD undef=Yy b:=gA;simp[results,h,f,asAddr,run_loadVar_mid w b 0 c a d g k i j]
theorem Eh{P:Program}{e:Func}{p u:Tmp}{c:TypeId}{x:D4}(h:e.results= #[.cell p c,.tmp u])(tmps:Array Value)(w:Zh)(b:Nat)(a:Zj)(d:TypeDesc)(j:tmps.getD p undef=Yy b)(l:tmps.getD u undef=x)(f:w.rangeAt b 0 a)(k:P.underlying c=an d)(g:d.isRow=bg)(i:(P.info? c).map (·.size)=an (eh a)):
 (results e tmps).run P w=.ok (.tuple #[ct (ei a),x]) w:=by
 rw[results_cell_tmp h,j,l];simp[asAddr,run_loadVar_mid w b 0 c a d f k g i]
