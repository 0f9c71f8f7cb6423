import Derived.Test.YtcankpdbabaacaaGreatDoorX03
import Derived.Lib.BytesEntry
set_option maxRecDepth 100000
set_option maxHeartbeats 16000000
namespace Go.Proofs.YtcankpdbabaacaaGreatDoor
open Go.ChangeShapes Go.WideShapes Go.ChangeAt Go.RowKit _root_.Go.Proofs.Tryz
variable{B a b size n c g cap k:Nat}{w:Zh}{e:TypeId}{v j:Value}{d:Zj}{T P L r:Option Nat}{R:List Nat}{s t:Zi}
def kC(x:Kd×Value):Zj:=[.string x.1.sum,Zg x.1.born,.string x.1.M,x.2]
theorem Et(x:Kd×Value):(kC x).length=4:=rfl
structure Bf (w:Zh) (base:Nat) (T P L:Value) (rs:Zj) (ks:List Kd) (ps:List Pd) (ls:List Ld):Prop where
 len:rs.length=ks.length
 aj:w.ownsRow base 99 4 T ks.length (Ab kC (ks.zip rs))
 B:∀(i:Nat) (k:Kd) (r:Value),ks[i]?=some k->rs[i]?=some r->w.ownsRow base 9 1 r k.B.length (k.B.map Value.string)
 pins:w.ownsRow base 163 2 P ps.length (Ab pC ps)
 aq:w.ownsRow base 164 3 L ls.length (Ab lC ls)
 nd:((T::P::L::rs).filterMap Value.ownBlock).Nodup
theorem Cp{a:Zh}(h:Below B w.drew a):Below B w a:=⟨h.os,h.tape,h.output,h.size,h.block⟩
theorem As(h:w.ownsRow b e size v n d):∃a c,v=.slice a n c:=by
 rcases h.2 with⟨rfl,rfl⟩|⟨g,cap,f,rfl,_⟩
 .exact⟨_,_,rfl⟩
 .exact⟨_,_,rfl⟩
theorem Bn{c:Zj}(h:w.ownsRow a e size v n c)(d:∀g,v.ownBlock=some g->g≠b)(j:Nat)(u:Value):(w.setCell (Ze b j) u).ownsRow a e size v n c:=
 World.ownsRow.kept h (Az w b j u) (.inr (fun e=>d b e rfl))
theorem d8{d:Nat}{a i b c e f g:Value}(h:Aa w d [a,i,b,c,e,j,f,g]):w.cell? (Ze d 0)=some a/\w.cell? (Ze d 2)=some b/\w.cell? (Ze d 3)=some c/\w.cell? (Ze d 4)=some e/\w.cell? (Ze d 6)=some f/\w.cell? (Ze d 7)=some g:=
 ⟨(h 0 _ rfl).1,(h 2 _ rfl).1,(h 3 _ rfl).1,(h 4 _ rfl).1,(h 6 _ rfl).1,(h 7 _ rfl).1⟩
def Bj(T P L:Value)(rs:Zj):List Nat:=T.ownBlock.toList++(P.ownBlock.toList++(L.ownBlock.toList++rs.filterMap Value.ownBlock))
theorem FA(T P L:Value)(a:Zj):(T::P::L::a).filterMap Value.ownBlock=Bj T P L a:=by unfold Bj;cases hT:T.ownBlock<;>cases hP:P.ownBlock<;>cases hL:L.ownBlock<;>simp[hT,hP,hL]
theorem XV{a:Option Nat}(h:(c::(T.toList++(P.toList++(L.toList++R)))).Nodup)(e:∀b∈c::(T.toList++(P.toList++(L.toList++R))),b<n)(i:∀g,r=some g->n<=g)(d:a=T\/∃t,a=some t/\n<=t/\∀g,r=some g->g≠t):(c::(a.toList++(P.toList++(L.toList++(R++r.toList))))).Nodup:=by
 rcases d with rfl|⟨t,rfl,j,f⟩
 .cases a<;>cases P<;>cases L<;>cases r<;>simp_all [List.nodup_append]<;>grind
 .cases T<;>cases P<;>cases L<;>cases r<;>simp_all [List.nodup_append]<;>grind
theorem MP(h:(a::(T.toList++(P.toList++(L.toList++R)))).Nodup):
 (∀g,T=some g->g≠a)/\(∀g,P=some g->g≠a/\T≠some g)/\(∀g,L=some g->g≠a/\T≠some g)/\(∀g∈R,g≠a/\T≠some g):=by
 cases T<;>cases P<;>cases L<;>simp_all<;>grind
theorem Ak{w':Zh}{b:Zj}(h:w.ownsRow a e size v n b)(j:∀g,v.ownBlock=some g->w'.heap[g]?=w.heap[g]?):w'.ownsRow a e size v n b:=by
 refine⟨h.1,?_⟩;rcases h.2 with i|⟨g,cap,c,rfl,d,f,rest⟩
 .exact .inl i
 .exact .inr ⟨g,cap,c,rfl,d,(j g rfl).trans f,rest⟩
theorem Gb{c:List Kd}(b:(c.map (·.sum)).Nodup){u v:Kd}(hu:u∈c)(d:v∈c)(h:u.sum=v.sum):u=v:=by
 induction c with
 |nil=>cases hu
 |cons x xs ih=>
  simp only[List.map_cons,List.nodup_cons,List.mem_map,not_exists,not_and]at b;rcases List.mem_cons.1 hu with a|a<;>rcases List.mem_cons.1 d with hv'|hv'
  .rw[a,hv']
  .exact absurd (a▸h.symm) (b.1 v hv')
  .exact absurd (hv'▸h) (b.1 u a)
  .exact ih b.2 a hv'
def z7:Zj:=[Zf,Zf,Zf,Zf,Zc,Zc,Zc]
theorem RL(h:Aa w b z7):(w.cell? (Ze b 0)=some Zf/\w.frozen? ⟨b,0,none⟩=false)/\(w.cell? (Ze b 1)=some Zf/\w.frozen? ⟨b,1,none⟩=false)/\(w.cell? (Ze b 2)=some Zf/\w.frozen? ⟨b,2,none⟩=false)/\(w.cell? (Ze b 3)=some Zf/\w.frozen? ⟨b,3,none⟩=false)/\(w.cell? (Ze b 4)=some Zc/\w.frozen? ⟨b,4,none⟩=false)/\(w.cell? (Ze b 5)=some Zc/\w.frozen? ⟨b,5,none⟩=false)/\(w.cell? (Ze b 6)=some Zc/\w.frozen? ⟨b,6,none⟩=false):=
 ⟨h 0 _ rfl,h 1 _ rfl,h 2 _ rfl,h 3 _ rfl,h 4 _ rfl,h 5 _ rfl,h 6 _ rfl⟩
theorem ZZ(h:Aa w b z7)(a c d e f g i:Value):Aa (((((((w.setCell (Ze b 0) a).setCell (Ze b 1) c).setCell (Ze b 2) d).setCell (Ze b 3) e).setCell (Ze b 4) f).setCell (Ze b 5) g).setCell (Ze b 6) i) b [a,c,d,e,f,g,i]:=
 (((((((h.set 0 a).set 1 c).set 2 d).set 3 e).set 4 f).set 5 g).set 6 i)
theorem Hk(h:w.ownsRow c e size v n d)(a:∀g,v.ownBlock=some g->g≠b)(f i j k l m o:Value):(((((((w.setCell (Ze b 0) f).setCell (Ze b 1) i).setCell (Ze b 2) j).setCell (Ze b 3) k).setCell (Ze b 4) l).setCell (Ze b 5) m).setCell (Ze b 6) o).ownsRow c e size v n d:=
 Bn (Bn (Bn (Bn (Bn (Bn (Bn h a 0 _) a 1 _) a 2 _) a 3 _) a 4 _) a 5 _) a 6 _
theorem FJ{a:Zh}(h:Below B a w)(c:B<=b)(d e f g i j k:Value):Below B a (((((((w.setCell (Ze b 0) d).setCell (Ze b 1) e).setCell (Ze b 2) f).setCell (Ze b 3) g).setCell (Ze b 4) i).setCell (Ze b 5) j).setCell (Ze b 6) k):=
 ((((((h.setCell c d).setCell c e).setCell c f).setCell c g).setCell c i).setCell c j).setCell c k
def Tw(b:Nat)(P L:Value):Prop:=(∀g,P.ownBlock=some g->g≠b)/\(∀g,L.ownBlock=some g->g≠b)/\(∀g,P.ownBlock=some g->L.ownBlock=some g->False)
theorem MQ(zS d m:Nat)(O P L:Value)(wd S s p:Int)(c:List Kd)(z:List Pd)(t:List Ld)(w:Zh)(hd:Dr w zS d m O P L wd S s p c z t)(xP:(c.map (·.sum)).Nodup)(xU:∀k∈c,(k.sum.size:Int)=wd)(hk:c.length<=600)(hp:z.length<=100)(hl:t.length<=200)(yK:∀k∈c,k.B.length<=30):
 Calls prog 67 #[Yz d] w fun e K=>∃T P' L' rs,e=.returned (.agg #[Zg wd,Zg S,Zg s,Zg p,T,P',L'])/\Bf K w.heap.size T P' L' rs c z t/\Zz w K:=by
 obtain⟨pa,zZ,rfl⟩:=As hd.cg;obtain⟨la,zY,rfl⟩:=As hd.ci;obtain⟨oa,vA,rfl⟩:=As hd.ord;have HD:=Yx hd;have vK:=hd.box.lt;obtain⟨W,hW⟩:∃W,W=w.alloc (.cells Yk 40):=⟨_,rfl⟩;have yE:=(AA hW).1;have yS:=(AA hW).2.1;have ZW:Aa W w.heap.size z7:=(AA hW).2.2;have zT:=Yx (hd.below yE)
 have zF:Hid (∀X,Zz W X->Calls prog 111 #[.slice pa z.length zZ] X fun e K=>∃a' c',e=.returned (.slice a' z.length c')/\K.ownsRow X.heap.size 163 2 (.slice a' z.length c') z.length (Ab pC z)/\Zz X K):=
  fun X J=>Jz pa zZ z X (AG.own (Ae zT.o.cg J)) Yw
 have V:Hid (∀X,Zz W X->Calls prog 112 #[.slice la t.length zY] X fun e K=>∃a' c',e=.returned (.slice a' t.length c')/\K.ownsRow X.heap.size 164 3 (.slice a' t.length c') t.length (Ab lC t)/\Zz X K):=
  fun X J=>IH la zY t X (AI.own (Ae zT.o.ci J)) Yw
 have HS:Hid (∀X,Zz W X->X.cell? (Ze d 0)=some (Zg wd)/\X.cell? (Ze d 2)=some (Zg S)/\X.cell? (Ze d 3)=some (Zg s)/\X.cell? (Ze d 4)=some (Zg p)/\X.cell? (Ze d 6)=some (.slice pa z.length zZ)/\X.cell? (Ze d 7)=some (.slice la t.length zY)):=
  fun X J=>d8 (zT.o.box.below J)
 have D0:Below W.heap.size W W.drew:=(Below.refl _ _).drew;have D1:∀o,Zz W (W.alloc o).drew:=fun o=>(Zy).drew;have HW:=Yx hW;have yM:=Yx ZW;have zC:=Yx yS;clear hd hW ZW yS;go_enter func67,ntmps67;go_upto_region 1 with fail;rw[<-HW.o];clear HW
 go_cut [3] (fun v wx=>∃(C:Nat) (G B:Zk) (H c2:Nat),v=Yz C/\Hid (Aa wx C (Yj wd S s p none 0 0 G z.length H B t.length c2)/\wx.ownsRow W.heap.size 163 2 (.slice G z.length H) z.length (Ab pC z)/\wx.ownsRow W.heap.size 164 3 (.slice B t.length c2) t.length (Ab lC t)/\Tw C (.slice G z.length H) (.slice B t.length c2)/\W.heap.size<=C/\Zz W wx))
 case first=>
  go_region_held3 (fun K=>K.cell? (Ze d 0)=some (Zg wd)/\K.cell? (Ze d 2)=some (Zg S)/\K.cell? (Ze d 3)=some (Zg s)/\K.cell? (Ze d 4)=some (Zg p)/\K.cell? (Ze d 6)=some (.slice pa z.length zZ)/\K.cell? (Ze d 7)=some (.slice la t.length zY))
   (first
     |with_reducible exact HS.o _ D0
     |with_reducible exact HS.o _ (D1 _)
     |with_reducible exact HS.o _ I
     |with_reducible exact HS.o _ U
     |with_reducible exact HS.o _ (I.alloc I.size _)
     |with_reducible exact HS.o _ (U.alloc U.size _)
     |with_reducible exact HS.o _ (FJ U Z _ _ _ _ _ _ _))
   (first
     |(go_at_call 111;guard_target=~Calls prog 111 _ (World.drew (World.alloc W _)) _;refine(zF.o (W.alloc (.cells Yk 40)).drew (D1 _)).mono ?_;rintro e D ⟨G,H,rfl,Q,zA⟩;have I:Below W.heap.size W D:=(D1 _).trans (zA.mono Yv);have nA:Aa D W.heap.size z7:=(Aa.below (w:=W.alloc (.cells Yk 40)) (Aa.new W _ _) (Cp zA)))
     |(go_at_call 111;guard_target=~Calls prog 111 _ (World.drew W) _;refine(zF.o W.drew D0).mono ?_;rintro e D ⟨G,H,rfl,Q,zA⟩;have I:Below W.heap.size W D:=D0.trans zA)
     |(go_at_call 112;have yH:=nA;refine(V.o D I).mono ?_;rintro e w2 ⟨B,c2,rfl,R,E⟩;have U:Below W.heap.size W w2:=I.trans (E.mono I.size);have n2:Aa w2 W.heap.size z7:=(Aa.below nA E);have Z:W.heap.size<=W.heap.size:=Zx;obtain⟨⟨y0,q0⟩,⟨y1,q1⟩,⟨y2,q2⟩,⟨y3,q3⟩,⟨y4,q4⟩,⟨y5,q5⟩,y6,q6⟩:=RL n2)
     |(go_at_call 112;guard_target=~Calls prog 112 _ (World.alloc D _) _;refine(V.o (D.alloc (.cells Yk 40)) (I.alloc I.size _)).mono ?_;rintro e w2 ⟨B,c2,rfl,R,E⟩;have U:Below W.heap.size W w2:=(I.alloc I.size _).trans (E.mono (by have:=I.size;simp;omega));have nB:Aa w2 D.heap.size z7:=(Aa.below (Aa.new D _ _) E);have Z:W.heap.size<=D.heap.size:=I.size;obtain⟨⟨y0,q0⟩,⟨y1,q1⟩,⟨y2,q2⟩,⟨y3,q3⟩,⟨y4,q4⟩,⟨y5,q5⟩,y6,q6⟩:=RL nB)
     |(go_at_call 112;refine(V.o D I).mono ?_;rintro e w2 ⟨B,c2,rfl,R,E⟩;have nC:=Q;have U:Below W.heap.size W w2:=I.trans (E.mono I.size)))
  all_goals (go_wp2_with fail;go_meet)
  all_goals first
   |(have yH:=nA
     have zz:=zC.o;have l1:∀g,(Value.slice G z.length H).ownBlock=some g->W.heap.size+1<=g/\g<D.heap.size:=fun g a=>by have:=Ac Q a;simp at this;omega
     have l2:∀g,(Value.slice B t.length c2).ownBlock=some g->D.heap.size<=g:=fun g a=>(Ac R a).1;have z1:W.heap.size+1<=D.heap.size:=by have:=zA.size;simp at this;omega
     exact⟨W.heap.size,G,B,H,c2,rfl,ZZ n2 _ _ _ _ _ _ _,Hk (Ae (Q.mono Yv) E) (fun g a=>by have:=l1 g a;omega) _ _ _ _ _ _ _,Hk (R.mono Yw) (fun g a=>by have:=l2 g a;omega) _ _ _ _ _ _ _,⟨fun g a=>by have:=l1 g a;omega,fun g a=>by have:=l2 g a;omega,fun g a zO=>by have:=l1 g a;have:=l2 g zO;omega⟩,Zx,FJ U (Zx) _ _ _ _ _ _ _⟩)
   |(have yH:=nB
     have l1:∀g,(Value.slice G z.length H).ownBlock=some g->W.heap.size<=g/\g<D.heap.size:=fun g a=>by have:=Ac Q a;simp at this;omega
     have l2:∀g,(Value.slice B t.length c2).ownBlock=some g->D.heap.size+1<=g:=fun g a=>by have:=(Ac R a).1;simp at this;omega
     exact⟨D.heap.size,G,B,H,c2,rfl,ZZ nB _ _ _ _ _ _ _,Hk (Ae (Ae (Q.mono Yv) (Zy)) E) (fun g a=>by have:=l1 g a;omega) _ _ _ _ _ _ _,Hk (R.mono Yu) (fun g a=>by have:=l2 g a;omega) _ _ _ _ _ _ _,⟨fun g a=>by have:=l1 g a;omega,fun g a=>by have:=l2 g a;omega,fun g a zO=>by have:=l1 g a;have:=l2 g zO;omega⟩,Z,FJ U Z _ _ _ _ _ _ _⟩)
   |(have yH:=nC
     have l1:∀g,(Value.slice G z.length H).ownBlock=some g->W.heap.size<=g/\g<D.heap.size:=fun g a=>by have:=Ac Q a;simp at this;omega
     have l2:∀g,(Value.slice B t.length c2).ownBlock=some g->D.heap.size<=g/\g<w2.heap.size:=fun g a=>Ac R a;have z2:=E.size;exact⟨w2.heap.size,G,B,H,c2,rfl,Aa.new w2 _ _,Ae (Ae (Q.mono Yv) E) (Zy),Ae (R.mono I.size) (Zy),⟨fun g a=>by have:=l1 g a;omega,fun g a=>by have:=l2 g a;omega,fun g a zO=>by have:=l1 g a;have:=l2 g zO;omega⟩,U.size,U.alloc U.size _⟩)
 case rest=>
  revert wc;intro wN hcut;obtain⟨C,G,B,H,c2,rfl,HC⟩:=hcut;have yW:Hid (Zz w wN):=yE.trans (HC.o.2.2.2.2.2.mono yE.size);have dN:=(zT.o.box.below HC.o.2.2.2.2.2);obtain⟨e5,_⟩:=dN 5 _ rfl;have zN:=HC.o.2.2.2.2.2.size;have vP:W.heap.size<=C:=HC.o.2.2.2.2.1;have xB:Hid (Aa wN w.heap.size z7):=Aa.below (v:=Zf) (l:=z7.tail) yM.o HC.o.2.2.2.2.2;clear dN zF V HS D0 D1 yM;go_wp2
  go_loopw [40] (fun i wr=>∃(k:Nat) (T:Value) (rs:Zj),k<=c.length/\i=Zg k/\Hid (Aa wr C [Zg wd,Zg S,Zg s,Zg p,T,.slice G z.length H,.slice B t.length c2]/\Aa wr w.heap.size z7/\wr.ownsRow W.heap.size 99 4 T k (Ab kC ((c.take k).zip rs))/\rs.length=k/\(∀(i:Nat) (x:Kd) (r:Value),(c.take k)[i]?=some x->rs[i]?=some r->wr.ownsRow W.heap.size 9 1 r x.B.length (x.B.map Value.string))/\wr.ownsRow W.heap.size 163 2 (.slice G z.length H) z.length (Ab pC z)/\wr.ownsRow W.heap.size 164 3 (.slice B t.length c2) t.length (Ab lC t)/\(C::Bj T (.slice G z.length H) (.slice B t.length c2) rs).Nodup)/\Zz w wr) (fun i _=>c.length -(intOf i).toNat)
  case atStart=>
   refine⟨0,Zc,[],Nat.zero_le _,rfl,⟨HC.o.1,xB.o,⟨rfl,.inl ⟨rfl,rfl⟩⟩,rfl,fun i x r hx=>by simp at hx,HC.o.2.1,HC.o.2.2.1,?_⟩,yW.o⟩;have h3:=HC.o.2.2.2.1;unfold Tw at h3;unfold Bj;generalize (Value.slice G z.length H).ownBlock=x1 at *
   generalize (Value.slice B t.length c2).ownBlock=x2 at *
   cases x1<;>cases x2<;>simp_all [Value.ownBlock]<;>grind
  case round=>
   obtain⟨k,T,rs,vL,rfl,HI,F⟩:=hrel;by_cases hlt:k<c.length
   .obtain⟨n,f,hn,hM,hH⟩:=HD.o.map;have yG:=F.size;have ho:wr.ownsRow zS 183 8 (.slice oa c.length vA) c.length (AB (c.map (·.sum))):=OC HD.o.ord F (fun g a=>(Ac HD.o.ord a).2);obtain⟨og,oc,xJ,_,vM⟩:=Cc ho (fun e=>by injection e with _ h2 _;omega);cases xJ;have HG:Hid (c[k]?=some c[k]):=Zv hlt;have N:c[k]∈c:=List.getElem_mem hlt;have xW:=xU _ N;have vH:=yK _ N
    have yQ:(c.map (·.sum))[k]?=some c[k].sum:=by simp[hlt]
    have q:∀j,j<8->wr.cell? (Ze og (k *8+j))=some (.int .u8 (kB c[k].sum j)):=fun j hj=>(ho.cellAt _ Yw).trans (Eg yQ hj);obtain⟨ra,rc,yP,yY⟩:∃ra rc,f (keyL c[k].sum)=some (CA c[k] ra rc)/\Hid (Ad w w.heap.size ra c[k].B):=by
     rcases hH _ xW with⟨_,xQ⟩|⟨u,ra,rc,hu,xV,xL,xS⟩
     .exact absurd ⟨_,N,rfl⟩ xQ
     .obtain rfl:=Gb xP hu N xV;exact⟨ra,rc,xL,xS.row⟩
    have fj:∀X,Zz wr X->(Instr.lookup 119 (.map (some m)) (BU c[k].sum) false).run prog X=.ok (CA c[k] ra rc) X:=fun X J=>by have:=(hM.ah (F.trans (J.mono yG)) hM.lt).look keyed underlying119 (KK _) (CP c[k].sum);rw[yP]at this;exact this
    have dr:Aa wr d _:=Aa.below HD.o.box F;have yO:=q 0 Yw;have xC:=q 1 Yw;have xD:=q 2 Yw;have xE:=q 3 Yw;have xF:=q 4 Yw;have xG:=q 5 Yw;have xH:=q 6 Yw;have xI:=q 7 Yw;rw[Nat.add_zero]at yO;have HX:Hid (c.take (k+1)=c.take k++[c[k]]):=Zu hlt;unfold BU CE CA at fj;clear ho q yQ hH yP N hM;generalize c[k]=x at *
    obtain⟨A,zI⟩:∃A,A=wr.alloc (.cells (Ym (kB x.sum)) 183):=⟨_,rfl⟩;have b1:=(AA zI).1;have z1:=(AA zI).2.1;have K1:=(AA zI).2.2
    have yA:Hid (∀X,Zz A X->X.cell? (Ze d 1)=some (.map (some m))/\(X.cell? (Ze (wr.heap.size) 0)=some (.int .u8 (kB x.sum 0))/\X.cell? (Ze (wr.heap.size) 1)=some (.int .u8 (kB x.sum 1))/\X.cell? (Ze (wr.heap.size) 2)=some (.int .u8 (kB x.sum 2))/\X.cell? (Ze (wr.heap.size) 3)=some (.int .u8 (kB x.sum 3))/\X.cell? (Ze (wr.heap.size) 4)=some (.int .u8 (kB x.sum 4))/\X.cell? (Ze (wr.heap.size) 5)=some (.int .u8 (kB x.sum 5))/\X.cell? (Ze (wr.heap.size) 6)=some (.int .u8 (kB x.sum 6))/\X.cell? (Ze (wr.heap.size) 7)=some (.int .u8 (kB x.sum 7)))/\(Instr.lookup 119 (.map (some m)) (.agg (Ym (kB x.sum))) false).run prog X=.ok (.agg #[.string x.sum,Zg x.born,.string x.M,.slice ra x.B.length rc]) X):=
     fun X J=>⟨((dr.below (b1.trans (J.mono b1.size))) 1 _ rfl).1,ZY (J.block _ Yw) K1,fj X (b1.trans (J.mono b1.size))⟩
    have D0:Below A.heap.size A A.drew:=(Below.refl _ _).drew;have D1:∀o,Zz A (A.alloc o).drew:=fun o=>(Zy).drew;have yL:=Yx zI;have zG:=Yx z1;have yV:=Yx b1;clear zI z1 fj K1 b1 dr;go_upto_region 5 with fail;rw[<-yL.o];clear yL yO xC xD xE xF xG xH xI
    go_region_held3 (fun X=>X.cell? (Ze d 1)=some (.map (some m))/\(X.cell? (Ze (wr.heap.size) 0)=some (.int .u8 (kB x.sum 0))/\X.cell? (Ze (wr.heap.size) 1)=some (.int .u8 (kB x.sum 1))/\X.cell? (Ze (wr.heap.size) 2)=some (.int .u8 (kB x.sum 2))/\X.cell? (Ze (wr.heap.size) 3)=some (.int .u8 (kB x.sum 3))/\X.cell? (Ze (wr.heap.size) 4)=some (.int .u8 (kB x.sum 4))/\X.cell? (Ze (wr.heap.size) 5)=some (.int .u8 (kB x.sum 5))/\X.cell? (Ze (wr.heap.size) 6)=some (.int .u8 (kB x.sum 6))/\X.cell? (Ze (wr.heap.size) 7)=some (.int .u8 (kB x.sum 7)))/\(Instr.lookup 119 (.map (some m)) (.agg (Ym (kB x.sum))) false).run prog X=.ok (.agg #[.string x.sum,Zg x.born,.string x.M,.slice ra x.B.length rc]) X)
     (first|with_reducible exact yA.o _ D0|with_reducible exact yA.o _ (D1 _))
     (fail)
    all_goals
     clear yA D0 D1;obtain⟨W2,zJ⟩:∃W2,W2=(A.alloc (.cells #[.string x.sum,Zg x.born,.string x.M,.slice ra x.B.length rc] 99)).drew:=⟨_,rfl⟩;have b2:Below A.heap.size A W2:=by rw[zJ];exact(Zy).drew
     have z2:W2.heap.size=A.heap.size+1:=by rw[zJ];simp
     have K2:Aa W2 A.heap.size [.string x.sum,Zg x.born,.string x.M,.slice ra x.B.length rc]:=by rw[zJ];exact Aa.new A _ _
     have z1:=zG.o;have yC:Below wr.heap.size wr W2:=yV.o.trans (b2.mono Yw);have R2:Ad W2 W2.heap.size ra x.B:=Ad.mono (Ad.below yY.o (F.trans (yC.mono yG))) Yw;rw[<-zJ];obtain⟨k3,_⟩:=K2 3 _ rfl;have yB:=Yx z2;have xR:x.B.length<=1048576:=Yw
     clear zJ z1 z2;go_wp2_with fail;refine(Hg ra rc x.B W2 R2 xR).mono ?_;rintro e w3 ⟨a3,c3,rfl,yF,zM⟩;clear k3;have z1:=zG.o;have z2:=yB.o;have zU:Below wr.heap.size wr w3:=yC.trans (zM.mono Yw);have z3:=zM.size;obtain⟨i1,i2,i3,i4,i5,i6,i7,i8⟩:=HI.o;have zW:=zC.o;have S3:=Aa.below i1 zU;obtain⟨ta,tc,rfl⟩:=As i3;obtain⟨s4,f4⟩:=S3 4 _ rfl;have xT:C<wr.heap.size:=i1.lt
     have yJ:¬C=A.heap.size:=Yw
     have vF:¬A.heap.size=C:=Yw
     obtain⟨k0,k1,k2⟩:=Aa.c3 (Aa.below K2 zM) 0 1 2;obtain⟨k3,g3⟩:=Aa.below K2 zM 3 _ rfl;have xA:=Yx (Ae i3 zU);have zH:∀g,(Value.slice ta k tc).ownBlock=some g->W.heap.size<=g/\g<wr.heap.size:=fun g a=>Ac i3 a;have yD:∀g,(Value.slice a3 x.B.length c3).ownBlock=some g->W2.heap.size<=g/\g<w3.heap.size:=fun g a=>Ac yF a;have yX:=Yx yF;have zR:=Yx zU;have yZ:=Yx S3
     have vI:W.heap.size<=w3.heap.size:=Yw
     obtain⟨i0,hi,xX,xY,xZ⟩:=info_parts Hf;have yN:=Yx z3;clear K2 b2 yC R2 i1 i2 i3 i4 i5 i6 i7 i8 zM yF zU S3 z1 z2 z3 zW;go_wp2_with (first
      |(at_builtin;refine wpList_append_own_at _ rfl _ _ 36 rfl W.heap.size 99 i0 _ 4 64 underlying36 hi xX xY xZ rfl Ys _ k (Ab kC ((c.take k).zip rs)) rfl ?d0 ⟨w3.heap.size,0,none⟩ 1 1 (kC (x,.slice a3 x.B.length c3)) rfl rfl ?d2 ?d3 ?d4 ?d5 ?d6 ?_)
      |go_in)
     case d0=>exact Ae (Bn xA.o (fun g a=>by have:=zH g a;have:=zG.o;omega) 3 _) (Zy)
     case d2=>
      intro j u hu;rw[Go.WideShapes.add_plain,Nat.zero_add];have:=(Aa.new (w3.setCell (Ze (A.heap.size) 3) (.slice a3 x.B.length c3)) (kC (x,.slice a3 x.B.length c3)) 99) j u hu;simpa [kC]using this.1
     case d3=>
      intro u hu;simp[kC]at hu;rcases hu with rfl|rfl|rfl|rfl<;>rfl
     case d4=>unfold maxLen;omega
     case d5=>omega
     case d6=>simp;omega
     intro v4 w4 zE zP xO zK;obtain⟨g4,c4,rfl,vC,vD⟩:=Cc zE (fun e=>by subst e;rcases zE.2 with⟨_,hn⟩|⟨_,_,_,e,_⟩<;>first|omega|cases e);obtain⟨i1,i2,i3,i4,i5,i6,i7,i8⟩:=HI.o;have nf:=MP i8;have z1:=zG.o;have z2:=yB.o;have z3:=yN.o;have zW:=zC.o;have J:∀b,b<w3.heap.size->b≠A.heap.size->(Value.slice ta k tc).ownBlock≠some b->w4.heap[b]?=w3.heap[b]?:=fun b Y zA E=>by rw[zP.block b Yu (fun e=>E e.symm),Below.heap_alloc _ _ _ Yu,Below.heap_setCell _ _ _ _ (by simpa using zA)]
     have S4:=Aa.same yZ.o (J C Yw yJ (fun e=>nf.1 _ e rfl));obtain⟨_,vJ⟩:=S4 4 _ rfl;obtain⟨vO,_⟩:=S4 4 _ rfl;have vE:g4≠C:=by
      rcases zK with ha|ha
      .exact nf.1 g4 ha.symm
      .simp[Value.ownBlock]at ha;omega
     have HF:=Yx (Zn S4 (Zn J (Zn zE (Zn zK zP))));clear S4 J zE zK zP i1 i2 i3 i4 i5 i6 i7 i8 nf z1 z2 z3 zW s4 f4 k0 k1 k2 k3 g3 xO;go_wp2;obtain⟨S4,J,zE,zK,zP⟩:=HF.o;obtain⟨i1,i2,i3,i4,i5,i6,i7,i8⟩:=HI.o;have nf:=MP i8;have z1:=zG.o;have z2:=yB.o;have z3:=yN.o;have zW:=zC.o
     have hY:∀b,b<w3.heap.size->b≠A.heap.size->b≠C->(Value.slice ta k tc).ownBlock≠some b->(w4.setCell (Ze C 4) (Za g4 (k+1) c4)).heap[b]?=w3.heap[b]?:=fun b h1 h2 h3 h4=>(Below.heap_setCell _ _ _ _ (by simpa using h3)).trans (J b h1 h2 h4)
     have zV:∀b,b<wr.heap.size->b≠C->(Value.slice ta k tc).ownBlock≠some b->(w4.setCell (Ze C 4) (Za g4 (k+1) c4)).heap[b]?=wr.heap[b]?:=fun b h1 h3 h4=>(hY b Yw Yw h3 h4).trans (zR.o.block b h1);have yT:∀r∈rs,∀g,r.ownBlock=some g->g<wr.heap.size:=by
      intro r M g a;obtain⟨i,hi⟩:=List.getElem?_of_mem M;have xN:i<k:=by have:=(Zw hi).1;omega
      exact(Ac (i5 i _ r (by rw[List.getElem?_take_of_lt xN];exact Zv Yw) hi) a).2
     refine⟨⟨k+1,Za g4 (k+1) c4,rs++[.slice a3 x.B.length c3],Yw,Yp,⟨Aa.set S4 4 _,?_,?_,?_,?_,?_,?_,?_⟩,?_⟩,by simp[intOf];omega⟩
     .exact Aa.same i2 (zV w.heap.size Yw Yw (fun e=>by have:=(zH _ e).1;omega))
     .rw[HX.o,List.zip_append (by rw[i4,List.length_take];omega),Bm];exact Bn zE (fun g a=>by simp[Value.ownBlock]at a;omega) 4 _
     .simp[i4]
     .intro i y r hy M;rw[HX.o]at hy;have yI:(c.take k).length=k:=by rw[List.length_take];omega
      rcases Nat.lt_or_ge i k with h|h
      .rw[List.getElem?_append_left Yw]at hy M;refine Ak (i5 i y r hy M) (fun g a=> ?_);have:=nf.2.2.2 g (List.mem_filterMap.2 ⟨r,Zs M,a⟩);exact zV g (yT r (Zs M) g a) this.1 this.2
      .have xM:i=k:=by have:=(Zw M).1;simp at this;omega
       subst xM;rw[List.getElem?_append_right Yw,yI,Nat.sub_self]at hy;rw[List.getElem?_append_right Yw,i4,Nat.sub_self]at M;simp at hy M;subst hy;subst M;refine Ak (World.ownsRow.mono yX.o Yw) (fun g a=> ?_);have:=yD g a;exact hY g this.2 Yw Yw (fun e=>by have:=(zH g e).2;omega)
     .exact Ak i6 (fun g a=>zV g (Ac i6 a).2 (nf.2.1 g a).1 (nf.2.1 g a).2)
     .exact Ak i7 (fun g a=>zV g (Ac i7 a).2 (nf.2.2.1 g a).1 (nf.2.2.1 g a).2)
     .unfold Bj;rw[List.filterMap_append];have xK:List.filterMap Value.ownBlock [.slice a3 x.B.length c3]=(Value.slice a3 x.B.length c3).ownBlock.toList:=by cases h:(Value.slice a3 x.B.length c3).ownBlock<;>simp[h]
      rw[xK];refine XV (n:=wr.heap.size) i8 ?_ (fun g a=>by have:=(yD g a).1;omega) ?_
      .intro b Y;simp only[List.mem_cons,List.mem_append,Option.mem_toList,List.mem_filterMap]at Y;rcases Y with rfl|Y|Y|Y|⟨r,M,Y⟩
       .exact xT
       .exact(zH _ Y).2
       .exact(Ac i6 Y).2
       .exact(Ac i7 Y).2
       .exact yT r M b Y
      .rcases zK with ha|ha
       .exact .inl ha
       .refine .inr ⟨w3.heap.size+1,by simpa using ha,Yw,fun g a=>by have:=(yD g a).2;omega⟩
     .have hq:Below w.heap.size w w3:=F.trans (zR.o.mono yG);exact(((hq.setCell Yu _).alloc Yu _).grown zP Yu (fun g a=>by have:=(zH g a).1;omega)).setCell Yu _
   .obtain rfl:k=c.length:=Yw
    obtain⟨i1,i2,i3,i4,i5,i6,i7,i8⟩:=HI.o;have zW:=zC.o;obtain⟨⟨y0,q0⟩,⟨y1,q1⟩,⟨y2,q2⟩,⟨y3,q3⟩,⟨y4,q4⟩,⟨y5,q5⟩,y6,q6⟩:=RL i2;obtain⟨ta,tc,rfl⟩:=As i3;obtain⟨x0,x1,x2,x3,x4,x5,x6⟩:=Aa.c7 i1 0 1 2 3 4 5 6;have vG:¬C=w.heap.size:=Yw
    have yU:¬w.heap.size=C:=Yw
    have zB:=Yx (Zn i2 (Zn i3 (Zn i4 (Zn i5 (Zn i6 (Zn i7 i8))))));clear i1 i2 i3 i4 i5 i6 i7 i8 zW;go_wp2;have zW:=zC.o
    have zX:∀{e:TypeId} {size:Nat} {v:Value} {n:Nat} {xs:Zj},wr.ownsRow W.heap.size e size v n xs->(((((((wr.setCell (Ze (w.heap.size) 0) (Zg wd)).setCell (Ze (w.heap.size) 1) (Zg S)).setCell (Ze (w.heap.size) 2) (Zg s)).setCell (Ze (w.heap.size) 3) (Zg p)).setCell (Ze (w.heap.size) 4) (.slice ta c.length tc)).setCell (Ze (w.heap.size) 5) (.slice G z.length H)).setCell (Ze (w.heap.size) 6) (.slice B t.length c2)).ownsRow w.heap.size e size v n xs:=fun h=>World.ownsRow.mono (Hk h (fun g a=>by have:=(Ac h a).1;omega) _ _ _ _ _ _ _) Yw
    have yR:c.take c.length=c:=Zt (Zx);refine bodyPost_ret (v:=.agg (Yi wd S s p ta c.length tc G z.length H B t.length c2)) (by simp[results,results67,go_sem,y0,y1,y2,y3,y4,y5,y6]) rfl ⟨_,_,_,rs,rfl,⟨zB.o.2.2.1,?_,?_,zX zB.o.2.2.2.2.1,zX zB.o.2.2.2.2.2.1,?_⟩,FJ F (Zx) _ _ _ _ _ _ _⟩
    .have:=zB.o.2.1;rw[yR]at this;exact zX this
    .intro i y r hy M;exact zX (zB.o.2.2.2.1 i y r (by rw[yR];exact hy) M)
    .rw[FA];exact(List.nodup_cons.1 zB.o.2.2.2.2.2.2).2
def kI(s:Zi):List Int:=[kB s 0,kB s 1,kB s 2,kB s 3,kB s 4,kB s 5,kB s 6,kB s 7]
def Fq(s t:Zi):Int:=Lib.compareBytes (Lib.bytesOf (kI s)) (Lib.bytesOf (kI t))
theorem XW(x:List UInt8):Lib.compareBytes x x=0:=by
 induction x with
 |nil=>rfl
 |cons a x ih=>unfold Lib.compareBytes;simp[ih,UInt8.lt_irrefl]
theorem OE(z:List UInt8):∀(x y:List UInt8),x.length=y.length->Lib.compareBytes (x++z) (y++z)=Lib.compareBytes x y
 |[],[],_=>by rw[List.nil_append,XW];rfl
 |a::x,b::y,h=>by have c:=OE z x y (by simpa using h);show Lib.compareBytes (a::(x++z)) (b::(y++z))=_;unfold Lib.compareBytes;rw[c]
theorem Tx:∀(x y:List UInt8),x.length=y.length->(Lib.compareBytes x y<0↔x<y)
 |[],[],_=>by simp[Lib.compareBytes]
 |a::x,b::y,h=>by
  have c:=Tx x y (by simpa using h);unfold Lib.compareBytes;rw[List.cons_lt_cons_iff,<-c];by_cases h1:a<b
  .simp[h1]
  .by_cases h2:b<a
   .have:¬a=b:=fun e=>by subst e;exact absurd h2 (UInt8.lt_irrefl _)
    simp[h1,h2,this]
   .have:a=b:=UInt8.le_antisymm (UInt8.not_lt.1 h2) (UInt8.not_lt.1 h1);simp[this]
theorem QW:∀(x y:List UInt8),x.length=y.length->(Lib.compareBytes x y=0↔x=y)
 |[],[],_=>by simp[Lib.compareBytes]
 |a::x,b::y,h=>by
  have c:=QW x y (by simpa using h);unfold Lib.compareBytes;by_cases h1:a<b
  .have:¬a=b:=fun e=>by subst e;exact absurd h1 (UInt8.lt_irrefl _)
   simp[h1,this]
  .by_cases h2:b<a
   .have:¬a=b:=fun e=>by subst e;exact absurd h2 (UInt8.lt_irrefl _)
    simp[h1,h2,this]
   .have:a=b:=UInt8.le_antisymm (UInt8.not_lt.1 h2) (UInt8.not_lt.1 h1);simp[this,c]
theorem Lq(s:Zi)(h:s.size<=8):Lib.bytesOf (kI s)=s.data.toList++List.replicate (8 -s.size) 0:=by
 have c:=BF s;have b:∀i,(kB s i).toNat.toUInt8=(s.data.toList[i]?).getD 0:=fun i=>by unfold kB;simp
 unfold kI Lib.bytesOf;simp only[List.map_cons,List.map_nil,b];apply List.ext_getElem?;intro i;rw[List.getElem?_append];rw[c];rcases Nat.lt_or_ge i 8 with a|a
 .have e:([(s.data.toList[0]?).getD 0,(s.data.toList[1]?).getD 0,(s.data.toList[2]?).getD 0,(s.data.toList[3]?).getD 0,(s.data.toList[4]?).getD 0,(s.data.toList[5]?).getD 0,(s.data.toList[6]?).getD 0,(s.data.toList[7]?).getD 0]:List UInt8)[i]?=some ((s.data.toList[i]?).getD 0):=by rcases(show i=0\/i=1\/i=2\/i=3\/i=4\/i=5\/i=6\/i=7 by omega)with rfl|rfl|rfl|rfl|rfl|rfl|rfl|rfl<;>rfl
  rw[e];by_cases hi:i<s.size
  .rw[if_pos hi,Zv Yw];rfl
  .rw[if_neg hi,List.getElem?_eq_none Yw,List.getElem?_replicate,if_pos Yw];rfl
 .rw[List.getElem?_eq_none Yu,if_neg Yw,List.getElem?_eq_none Yu]
theorem Vv(b:s.size<=8)(a:t.size=s.size):Fq s t<0↔less s t=true:=by unfold Fq less;rw[Lq s b,Lq t Yw,a,OE _ _ _ (by rw[BF,BF,a]),Tx _ _ (by rw[BF,BF,a]),ByteArray.toList_eq,ByteArray.toList_eq,OB]
theorem Tz(b:s.size<=8)(a:t.size=s.size):Fq s t=0↔s=t:=by
 unfold Fq;rw[Lq s b,Lq t Yw,a,OE _ _ _ (by rw[BF,BF,a]),QW _ _ (by rw[BF,BF,a])];constructor
 .intro h;exact toList_inj (by rw[ByteArray.toList_eq,ByteArray.toList_eq];exact h)
 .rintro rfl;rfl
theorem OF(h:Aa w b (Al s)):∀j x,(kI s)[j]?=some x->w.cell? ((⟨b,0,none⟩:Addr).add j)=some (.int .u8 x):=by intro j x a;rw[Go.WideShapes.add_plain,Nat.zero_add];have c:j<8:=(Zw a).1;refine(h j (.int .u8 x) ?_).1;unfold Al CE;unfold kI at a;rcases(show j=0\/j=1\/j=2\/j=3\/j=4\/j=5\/j=6\/j=7 by omega)with rfl|rfl|rfl|rfl|rfl|rfl|rfl|rfl<;>(simp at a;subst a;rfl)
theorem PX(w:Zh)(a b:Nat)(s t:Zi)(f:Aa w a (Al s))(g:Aa w b (Al t)):
 (callFunc 253 #[Za a 8 8,Za b 8 8]).run prog w=.ok (.value (Zg (Fq s t))) w:=by
 rw[run_callFunc_extern (fn:=f253) (e:=Extern.BytealgCompare.compare) func253 Yt Yt Yt Yt];have c:=Lib.run_loadBytesX (P:=prog) w (kI s) ⟨a,0,none⟩ .empty (OF f);have d:=Lib.run_loadBytesX (P:=prog) w (kI t) ⟨b,0,none⟩ .empty (OF g);have h:∀l:List UInt8,(⟨ByteArray.empty.data++l.toArray⟩:Zi)=⟨l.toArray⟩:=fun l=>by apply ByteArray.ext;show(#[]:Array UInt8)++l.toArray=l.toArray;simp
 rw[h]at c d;change (Sem.run prog (do pure (goInt (Extern.BytealgCompare.cmp (<-Extern.Bytes.bytesOf (Za a 8 8)) (<-Extern.Bytes.bytesOf (Za b 8 8))))) w).andThen _=_;simp only[Extern.Bytes.bytesOf,Sem.run_bind,Sem.run_pure];rw[show(8:Nat)=(kI s).length from rfl,c];rw[Result.andThen_ok,show(kI s).length=(kI t).length from rfl,d];simp only[Result.andThen];rw[Lib.cmp_eq];rfl
theorem KL(w:Zh)(a b:Nat)(s t:Zi)(c:Aa w a (Al s))(d:Aa w b (Al t)):
 Calls prog 248 #[Za a 8 8,Za b 8 8] w fun e f=>e=.returned (Zg (Fq s t))/\f=w:=by
 have g:=PX w a b s t c d;clear c d;go_enter func248,ntmps248;go_wp2;go_ret;exact⟨rfl,rfl⟩
theorem Lr(s t:Zi)(w:Zh):
 Calls prog 247 #[BU s,BU t] w fun e h=>e=.returned (Zg (Fq s t))/\Zz w h:=by
 obtain⟨W,a⟩:∃W,W=(w.alloc (.cells (Ym (kB s)) 183)).alloc (.cells (Ym (kB t)) 183):=⟨_,rfl⟩;have g:=(Bo a).1;have d:Aa W w.heap.size (Al s):=by rw[a];exact Aa.below (v:=.int .u8 (kB s 0)) (Aa.new w (Al s) 183) (Zy)
 have f:Aa W (w.heap.size+1) (Al t):=by have:=Aa.new (w.alloc (.cells (Ym (kB s)) 183)) (Al t) 183;rw[World.size_alloc]at this;rw[a];exact this
 have b:=Yx (Zb d f);have c:=Yx a;clear a d f;unfold BU CE;go_enter func247,ntmps247;go_upto_region 1 with fail;rw[<-c.o];clear c;go_region_with (go_at_call 248;refine(KL W.drew w.heap.size (w.heap.size+1) s t b.o.1 b.o.2).mono ?_;rintro e i ⟨rfl,rfl⟩)
 all_goals
  go_wp2;go_ret;exact⟨rfl,g.drew⟩
structure FB (ss:Zl) (s:Zi) (i:Nat):Prop where
 le:i<=ss.length
 lo:∀j x,j<i->ss[j]?=some x->less x s=true
 hi:∀j x,i<=j->ss[j]?=some x->less x s=false
theorem XX{a:Zl}(e:w.ownsRow b 183 8 (Za g a.length cap) a.length (AB a))(c:a[k]?=some s):∀j,j<8->w.cell? (Ze g (k *8+j))=some (.int .u8 (kB s j)):=fun j d=>by have:=(Zw c).1;exact(e.cellAt _ Yw).trans (Eg c d)
theorem Aaa{a:Zl}(c:w.ownsRow b 183 8 (Za g a.length cap) a.length (AB a))(d:a[k]?=some s):
 w.cell? (Ze g (k *8))=some (.int .u8 (kB s 0))/\w.cell? (Ze g (k *8+1))=some (.int .u8 (kB s 1))/\w.cell? (Ze g (k *8+2))=some (.int .u8 (kB s 2))/\w.cell? (Ze g (k *8+3))=some (.int .u8 (kB s 3))/\w.cell? (Ze g (k *8+4))=some (.int .u8 (kB s 4))/\w.cell? (Ze g (k *8+5))=some (.int .u8 (kB s 5))/\w.cell? (Ze g (k *8+6))=some (.int .u8 (kB s 6))/\w.cell? (Ze g (k *8+7))=some (.int .u8 (kB s 7)):=
 have h:=XX c d
 ⟨by simpa using h 0 Ys,h 1 Ys,h 2 Ys,h 3 Ys,h 4 Ys,h 5 Ys,h 6 Ys,h 7 Ys⟩
theorem Hl(h:Aa w g (Al s)):
 w.cell? (Ze g 0)=some (.int .u8 (kB s 0))/\w.cell? (Ze g 1)=some (.int .u8 (kB s 1))/\w.cell? (Ze g 2)=some (.int .u8 (kB s 2))/\w.cell? (Ze g 3)=some (.int .u8 (kB s 3))/\w.cell? (Ze g 4)=some (.int .u8 (kB s 4))/\w.cell? (Ze g 5)=some (.int .u8 (kB s 5))/\w.cell? (Ze g 6)=some (.int .u8 (kB s 6))/\w.cell? (Ze g 7)=some (.int .u8 (kB s 7)):=
 ⟨(h 0 _ rfl).1,(h 1 _ rfl).1,(h 2 _ rfl).1,(h 3 _ rfl).1,(h 4 _ rfl).1,(h 5 _ rfl).1,(h 6 _ rfl).1,(h 7 _ rfl).1⟩
theorem Ls(g cap:Nat)(d:Zl)(s:Zi)(w:Zh)(zC:Nat)(ho:w.ownsRow zC 183 8 (.slice (some ⟨g,0,none⟩) d.length cap) d.length (AB d))(hl:d.length<=600)(zR:s.size<=8)(zI:∀x∈d,x.size=s.size)(l:d.Pairwise (fun a b=>less a b=true)):
 Calls prog 246 #[.slice (some ⟨g,0,none⟩) d.length cap,BU s,.func (.func 247) #[] #[]] w fun e w'=>∃i:Nat,e=.returned (.tuple #[Zg i,.bool (decide (d[i]?=some s))])/\FB d s i/\Zz w w':=by
 unfold BU CE;have zO:=(Ac ho rfl).2;obtain⟨W,hW⟩:∃W,W=w.alloc (.cells (Ym (kB s)) 183):=⟨_,rfl⟩;have M:=(AA hW).1;have cb:Aa W w.heap.size (Al s):=by rw[hW];exact Aa.new w (Al s) 183
 have zH:=Ae ho M;have HW:Hid _:=hW;have HO:Hid _:=zH;have HC:Hid _:=cb;have zS:=Aa.lt (v:=.int .u8 (kB s 0)) cb;clear hW zH cb ho;go_enter func246,ntmps246;go_upto_region 1 with fail;rw[<-HW.o];clear HW;have zN:=enters_of func247 Yt rfl;go_wp2
 go_loopw [9,10] (fun i j wr=>∃lo f:Nat,i=Zg lo/\j=Zg f/\lo<=f/\f<=d.length/\Hid ((∀j x,j<lo->d[j]?=some x->less x s=true)/\(∀j x,f<=j->d[j]?=some x->less x s=false))/\Zz W wr) (fun i j _=>(intOf j).toNat -(intOf i).toNat)
 case atStart=>exact⟨0,d.length,rfl,rfl,Nat.zero_le _,Zx,⟨fun j x h=>by omega,fun j x h hx=>by have:=(Zw hx).1;omega⟩,Below.refl _ _⟩
 case round=>
  obtain⟨lo,f,rfl,rfl,zP,zF,HI,c⟩:=hrel;have p:=c.size;by_cases hlt:lo<f
  .have N:(lo+f)/2<d.length:=Yw
   have n:Hid _:=Zv N;have zM:=zI _ (List.getElem_mem N);generalize d[(lo+f)/2]=x at *
   obtain⟨r0,O,P,Q,R,S,r6,T⟩:=Aaa (Ae HO.o c) n.o;obtain⟨U,V,X,Y,Z,t5,t6,t7⟩:=Hl (Aa.below (v:=.int .u8 (kB s 0)) HC.o c);have q:=Ar.cell r0 (show g<wr.heap.size by omega);have r:=Ar.cell O (show g<wr.heap.size by omega);have u:=Ar.cell P (show g<wr.heap.size by omega);have z:=Ar.cell Q (show g<wr.heap.size by omega);have A:=Ar.cell R (show g<wr.heap.size by omega)
   have B:=Ar.cell S (show g<wr.heap.size by omega);have C:=Ar.cell r6 (show g<wr.heap.size by omega);have D:=Ar.cell T (show g<wr.heap.size by omega);have E:=Ar.cell U (show w.heap.size<wr.heap.size by omega);have F:=Ar.cell V (show w.heap.size<wr.heap.size by omega);have G:=Ar.cell X (show w.heap.size<wr.heap.size by omega);have H:=Ar.cell Y (show w.heap.size<wr.heap.size by omega)
   have I:=Ar.cell Z (show w.heap.size<wr.heap.size by omega);have J:=Ar.cell t5 (show w.heap.size<wr.heap.size by omega);have K:=Ar.cell t6 (show w.heap.size<wr.heap.size by omega);have L:=Ar.cell t7 (show w.heap.size<wr.heap.size by omega);have zG:=Ar.ne wr
   have k:Hid (∀m:Ar wr,Calls prog 247 #[.agg (Ym (kB x)),.agg (Ym (kB s))] m.w fun e w'=>e=.returned (Zg (Fq x s))/\Below m.w.heap.size m.w w'):=fun m=>Lr x s m.w;clear r0 O P Q R S r6 T U V X Y Z t5 t6 t7;have zA:Hid _:=Vv (s:=x) (t:=s) Yw Yw;by_cases hc:Fq x s<0
   .have hd:decide (Fq x s<0)=true:=by simpa using hc
    go_wp2;refine Au Yt Yt ?_
    repeat (go_big_quiet_step (exact Ar.calls (k.o _)))
    refine wpQuiet_nil ?_;intro m;clear q r u z A B C D E F G H I J K L k;go_wp2;refine⟨⟨(lo+f)/2+1,f,Yp,rfl,Yw,zF,⟨?_,HI.o.2⟩,c.trans (m.h.mono p)⟩,by simp[intOf];omega⟩;intro j y hj o;rcases Nat.lt_or_ge j ((lo+f)/2)with h|h
    .have:=List.pairwise_iff_getElem.1 l j ((lo+f)/2) Yw N h;obtain⟨_,rfl⟩:=Zw o;obtain⟨_,e⟩:=Zw n.o;rw[e]at this;exact Cw this (zA.o.1 hc)
    .obtain rfl:j=(lo+f)/2:=Yw
     rw[n.o]at o;cases o;exact zA.o.1 hc
   .have hd:decide (Fq x s<0)=false:=by simpa using hc
    have zJ:Hid _:=hc;clear hc;go_wp2;refine Au Yt Yt ?_
    repeat (go_big_quiet_step (exact Ar.calls (k.o _)))
    refine wpQuiet_nil ?_;intro m;clear q r u z A B C D E F G H I J K L k;go_wp2;refine⟨⟨lo,(lo+f)/2,rfl,Yp,Yw,Yw,⟨HI.o.1,?_⟩,c.trans (m.h.mono p)⟩,by simp[intOf];omega⟩;have zB:less x s=false:=by
     cases h:less x s with
     |false=>rfl
     |true=>exact absurd (zA.o.2 h) zJ.o
    intro j y hj o;rcases Nat.lt_or_ge ((lo+f)/2) j with h|h
    .have zK:=(Zw o).1;have:=List.pairwise_iff_getElem.1 l ((lo+f)/2) j N zK h;obtain⟨_,rfl⟩:=Zw o;obtain⟨_,e⟩:=Zw n.o;rw[e]at this;cases h':less d[j] s with
     |false=>rfl
     |true=>rw[Cw this h']at zB;cases zB
    .obtain rfl:j=(lo+f)/2:=Yw
     rw[n.o]at o;cases o;exact zB
  .obtain rfl:lo=f:=Yw
   have HP:Hid (FB d s lo):=⟨zF,HI.o.1,HI.o.2⟩;by_cases hn:lo<d.length
   .have n:Hid _:=Zv hn;have zM:=zI _ (List.getElem_mem hn);generalize d[lo]=x at *
    obtain⟨r0,O,P,Q,R,S,r6,T⟩:=Aaa (Ae HO.o c) n.o;obtain⟨U,V,X,Y,Z,t5,t6,t7⟩:=Hl (Aa.below (v:=.int .u8 (kB s 0)) HC.o c);have q:=Ar.cell r0 (show g<wr.heap.size by omega);have r:=Ar.cell O (show g<wr.heap.size by omega);have u:=Ar.cell P (show g<wr.heap.size by omega);have z:=Ar.cell Q (show g<wr.heap.size by omega);have A:=Ar.cell R (show g<wr.heap.size by omega)
    have B:=Ar.cell S (show g<wr.heap.size by omega);have C:=Ar.cell r6 (show g<wr.heap.size by omega);have D:=Ar.cell T (show g<wr.heap.size by omega);have E:=Ar.cell U (show w.heap.size<wr.heap.size by omega);have F:=Ar.cell V (show w.heap.size<wr.heap.size by omega);have G:=Ar.cell X (show w.heap.size<wr.heap.size by omega);have H:=Ar.cell Y (show w.heap.size<wr.heap.size by omega)
    have I:=Ar.cell Z (show w.heap.size<wr.heap.size by omega);have J:=Ar.cell t5 (show w.heap.size<wr.heap.size by omega);have K:=Ar.cell t6 (show w.heap.size<wr.heap.size by omega);have L:=Ar.cell t7 (show w.heap.size<wr.heap.size by omega);have zG:=Ar.ne wr
    have k:Hid (∀m:Ar wr,Calls prog 247 #[.agg (Ym (kB x)),.agg (Ym (kB s))] m.w fun e w'=>e=.returned (Zg (Fq x s))/\Below m.w.heap.size m.w w'):=fun m=>Lr x s m.w;clear r0 O P Q R S r6 T U V X Y Z t5 t6 t7;have zE:Hid _:=Tz (s:=x) (t:=s) Yw Yw;by_cases hc:Fq x s=0
    .have hd:(Fq x s==0)=true:=by simpa using hc
     go_wp2;refine Au Yt Yt ?_
     repeat (go_big_quiet_step (exact Ar.calls (k.o _)))
     refine wpQuiet_nil ?_;intro m;clear q r u z A B C D E F G H I J K L k;go_wp2
     go_ret2
     refine⟨lo,?_,HP.o,M.trans ((c.trans (m.h.mono p)).mono M.size)⟩;rw[n.o,zE.o.1 hc,decide_eq_true rfl];rfl
    .have hd:(Fq x s==0)=false:=by simpa using hc
     go_wp2;refine Au Yt Yt ?_
     repeat (go_big_quiet_step (exact Ar.calls (k.o _)))
     refine wpQuiet_nil ?_;intro m;clear q r u z A B C D E F G H I J K L k;go_wp2
     go_ret2
     refine⟨lo,?_,HP.o,M.trans ((c.trans (m.h.mono p)).mono M.size)⟩;rw[n.o,decide_eq_false (fun e=>hc (zE.o.2 (Option.some.inj e)))];rfl
   .have zG:=Ar.ne wr;go_wp2;refine Au Yt Yt ?_
    repeat (go_big_quiet_step (fail))
    refine wpQuiet_nil ?_;intro m;go_wp2
    go_ret2
    refine⟨lo,?_,HP.o,M.trans ((c.trans (m.h.mono p)).mono M.size)⟩;rw[List.getElem?_eq_none Yw,decide_eq_false Yv];rfl
section
open Go.WideElems Go.MapKept Go.ChangeMaps
open Classical in
noncomputable def fh (f:Lit->Option Value) (kl:Lit):Lit->Option Value:=fun x=>if x=kl then none else f x
theorem AT.del{K t:TypeId}{f:Lit->Option Value}(h:AT w K b n f)(p:Maps.Keyed prog K)(u:prog.underlying t=some (.map K e)){a:Lit}(d:keyOf prog K j=some a)(k:TypeId):
 ∃c,(Builtin.delete_ #[t,K] k #[.map (some b),j]).run prog w=.ok (.tuple #[]) c/\AT c K b n (fh f a)/\w.grownBy c (some b):=by
 obtain⟨D,l,m,o⟩:=h;obtain⟨c,s,r,y,clock,v,g,A,rfl⟩:=l.drop p u d k;refine⟨_,s,⟨_,r,fun x z=> ?_,fun x=> ?_⟩,?_⟩
 .by_cases hx:x=a
  .subst hx;rw[Maps.atKey_del_same];simp[fh]
  .rw[Maps.atKey_del_other hx,m];simp[fh,hx]
 .by_cases hx:x=a
  .subst hx;rw[Maps.has_del_same];simp[fh]
  .rw[Maps.has_del_other hx,o];simp[fh,hx]
 .refine⟨rfl,rfl,rfl,by simp[setBlock],fun i _ q=> ?_⟩;simp only[setBlock];rw[Array.getElem?_setIfInBounds_ne (fun e=>q (by rw[e]))]
theorem XY(w:Zh):(zeroValue 183).run prog w=.ok (.agg Cv) w:=Yt
theorem Nv(w:Zh)(i:TypeId)(b o c:Nat)(g:∀j,j<8->(w.cell? (Ze b (o+j))).isSome=true)(h:∀j,j<8->w.frozen? ⟨b,o+j,none⟩=false):
 (Builtin.clear_ #[122] i #[.slice (some ⟨b,o,none⟩) 1 c]).run prog w=.ok (.tuple #[]) (w.setCells b o Cv.toList):=by
 have e:(Builtin.zeroCells (Value.agg Cv).cells 1).toList=Cv.toList:=Yt
 have a:=run_storeCells_cells (P:=prog) b o Cv.toList 0 w (by simpa [Cv]using g) (by simpa [Cv]using h) (by intro v d;simp[Cv]at d;subst d;rfl);simp only[Nat.add_zero]at a;have f:=XY;unfold Cv at e a f |-;simp[Builtin.clear_,run_underlying underlying122,f,e,a]
theorem Hm{b:Zj}:∀(vs:Zj) (o:Nat) (w:Zh),w.ownsRow a e size (Za g n cap) n b->n *size<=o->(w.setCells g o vs).ownsRow a e size (Za g n cap) n b
 |[],_,_,h,_=>h
 |v::r,o,w,h,ho=>by rw[World.setCells];refine Hm r (o+1) _ ?_ Yw;have:=(h.stored o v).1;rw[List.set_eq_of_length_le (by rw[h.1];exact ho)]at this;exact this
theorem Ch(g:Nat):∀(vs:Zj) (o:Nat) (w:Zh),w.grownBy (w.setCells g o vs) (some g)
 |[],_,w=>⟨rfl,rfl,rfl,Zx,fun _ _ _=>rfl⟩
 |v::r,o,w=>by rw[World.setCells];exact Aw (Az w g o v) (Ch g r (o+1) _)
theorem Dp{a:Zh}(h:w.drew.grownBy a r):w.grownBy a r:=⟨h.os,h.tape,h.output,h.size,h.block⟩
theorem XZ{b:Zl}(h:w.ownsRow a 183 8 (Za g b.length cap) b.length (AB b))(i:Nat)(n:i<=b.length):w.ownsRow a 183 8 (Za g i cap) i (AB (b.take i)):=by
 refine⟨by rw[Di,List.length_take];congr 1;omega,?_⟩;rcases h.2 with⟨e,_⟩|⟨o,d,c,e,l,m,p,f,j,k⟩
 .cases e
 .cases e;refine .inr ⟨g,cap,c,rfl,l,m,Yw,f,j,?_⟩;rw[Gn,<-FZ EC b i n,<-Gn,<-k,List.take_take];congr 1;omega
theorem Nw(g cap i:Nat)(a:Zl)(w:Zh)(d:Nat)(q:w.ownsRow d 183 8 (Za g a.length cap) a.length (AB a))(Z:a.length<=600)(Y:i<a.length):
 Calls prog 227 #[Za g a.length cap,Zg i,Zg ((i:Int)+1)] w fun e z=>e=.returned (Za g (a.length -1) cap)/\z.ownsRow d 183 8 (Za g (a.length -1) cap) (a.length -1) (AB (a.eraseIdx i))/\w.grownBy z (some g):=by
 obtain⟨K,n,S,E,T⟩:=info_parts Kf;have m:a.length<=cap/\cap<=maxLen:=by
  rcases q.2 with⟨e,_⟩|⟨G,l,B,e,J,x,t,v,H,I⟩
  .cases e
  .cases e;exact⟨t,v⟩
 obtain⟨L,C⟩:=m;unfold maxLen at C;have hcut:=XZ q i Yw;obtain⟨A,X,c⟩:∃A,(if cap=i+1 then some (⟨g,0,none⟩:Addr)else some ⟨g,(i+1) *8,none⟩)=some A/\∀j u,(AB (a.drop (i+1)))[j]?=some u->w.drew.cell? (A.add j)=some u:=by
  by_cases h:cap=i+1
  .refine⟨⟨g,0,none⟩,by rw[if_pos h],fun j u hu=> ?_⟩;rw[List.drop_of_length_le Yw]at hu;simp[AB]at hu
  .refine⟨⟨g,(i+1) *8,none⟩,by rw[if_neg h],fun j u hu=> ?_⟩;rw[Go.WideShapes.add_plain];rw[Gn,<-Fo EC a (i+1) Yw,<-Gn,List.getElem?_drop]at hu;have D:=(Zw hu).1;rw[Di]at D;exact(q.cellAt _ Yw).trans hu
 obtain⟨r,y,b,f⟩:=run_append_fits (P:=prog) w.drew d 122 122 183 K 8 underlying122 n E g i cap (AB (a.take i)) hcut A (a.length -(i+1)) (cap -(i+1)) (AB (a.drop (i+1))) (by rw[Di,List.length_drop]) c (Dz _) Yw;rw[<-GD,show i+(a.length -(i+1))=a.length -1 by omega]at b;rw[show i+(a.length -(i+1))=a.length -1 by omega]at y;have o:=(List.eraseIdx_eq_take_drop_succ a i).symm;rw[o]at b
 have s:=Yx (Zn b f);clear c b hcut o;go_enter func227,ntmps227;have M:¬((i:Int)==(i:Int)+1)=true:=Yu
 have N:i<=cap:=Yw
 have O:(0:Int)<=(i:Int)+1:=Yw
 have Q:(i:Int)+1<=(a.length:Int):=Yw
 have R:((i:Int)+1).toNat=i+1:=Yw
 go_upto_region 5 with fail
 go_region_law (first
  |(refine Bv Yr (.tmp 22) (.tmp 25) 122 122 Yr Yr (by simp[Act.eval,Act.put]) y ?_))
 all_goals
  have p:∀j,j<8->(r.cell? (Ze g ((a.length -1) *8+j))).isSome=true/\r.frozen? ⟨g,(a.length -1) *8+j,none⟩=false:=fun j k=>by
   obtain⟨b,f⟩:=s.o;rcases b.2 with⟨e,_⟩|⟨G,l,B,e,J,x,t,v,H,I⟩
   .cases e
   .cases e;constructor
    .simp only[World.cell?,x];rw[Array.getElem?_eq_getElem Yw];rfl
    .exact b.frozenAt _
  have F:=Nv r 0 g ((a.length -1) *8) (cap -(a.length -1)) (fun j k=>(p j k).1) (fun j k=>(p j k).2);have U:a.length -(a.length -1)=1:=Yw
  have V:¬cap=a.length -1:=Yw
  have W:a.length -1<=a.length:=Yw
  go_wp2;go_ret;obtain⟨b,f⟩:=s.o;exact⟨rfl,Hm _ _ _ b (Zx),Aw (Dp f) (Ch g _ _ _)⟩
theorem TA(f d m g cap:Nat)(P L:Value)(T C l h:Int)(c:List Kd)(s:Zi)(w:Zh)(j:Aa w d [Zg T,.map (some m),Zg C,Zg l,Zg h,Za g c.length cap,P,L])(k:w.ownsRow f 183 8 (Za g c.length cap) c.length (AB (c.map (·.sum))))(N:c.length<=600)(A:s.size<=8)(B:∀x∈c,x.sum.size=s.size)(n:(c.map (·.sum)).Pairwise (fun a b=>less a b=true)):
 Calls prog 226 #[Yz d,BU s] w fun e S=>∃i:Nat,e=.returned (.tuple #[Zg i,.bool (decide ((c.map (·.sum))[i]?=some s))])/\FB (c.map (·.sum)) s i/\Zz w S:=by
 obtain⟨W,p⟩:∃W,W=w.alloc (.cells (Ym (kB s)) 183):=⟨_,rfl⟩;have o:=(AA p).1;have u:Aa W w.heap.size (Al s):=by rw[p];exact Aa.new w (Al s) 183
 have q:W.drew.ownsRow f 183 8 (Za g (c.map (·.sum)).length cap) (c.map (·.sum)).length (AB (c.map (·.sum))):=by rw[List.length_map];exact Ae k o.drew
 have HS:=Yx (Ls g cap (c.map (·.sum)) s W.drew f q (by rw[List.length_map];exact N) A (fun x O=>by obtain⟨y,Q,rfl⟩:=List.mem_map.1 O;exact B y Q) n);rw[List.length_map]at HS
 have M:W.drew.cell? (Ze d 5)=some (Za g c.length cap)/\(W.drew.cell? (Ze (w.heap.size) 0)=some (.int .u8 (kB s 0))/\W.drew.cell? (Ze (w.heap.size) 1)=some (.int .u8 (kB s 1))/\W.drew.cell? (Ze (w.heap.size) 2)=some (.int .u8 (kB s 2))/\W.drew.cell? (Ze (w.heap.size) 3)=some (.int .u8 (kB s 3))/\W.drew.cell? (Ze (w.heap.size) 4)=some (.int .u8 (kB s 4))/\W.drew.cell? (Ze (w.heap.size) 5)=some (.int .u8 (kB s 5))/\W.drew.cell? (Ze (w.heap.size) 6)=some (.int .u8 (kB s 6))/\W.drew.cell? (Ze (w.heap.size) 7)=some (.int .u8 (kB s 7))):=⟨(Aa.below j o 5 _ rfl).1,Hl u⟩
 have t:=Yx p;clear p u q j k;unfold BU CE at *
 go_enter func226,ntmps226;go_upto_region 1 with fail;rw[<-t.o];clear t;obtain⟨R,D,E,F,G,H,I,J,K⟩:=M;go_region_with (go_at_call 246;refine Calls.mono HS.o ?_;rintro e U ⟨i,rfl,z,v⟩)
 all_goals
  have r:=Yx (Zn z (o.trans ((Cp v).mono o.size)));clear z v R D E F G H I J K HS;go_wp2
  go_ret2
  exact⟨i,by first|rfl|simp[Act.put],r.o.1,r.o.2⟩
end
theorem Vw(x:Zi)(w:Zh):Calls prog 249 #[.string x] w fun e a=>e=.returned (.bool false)/\Zz w a:=by go_enter func249,ntmps249;go_wp2;go_ret;exact⟨Yv,Below.refl _ _⟩
theorem Vx(x:Zi)(w:Zh):Calls prog 232 #[.string x] w fun e a=>e=.returned (.bool false)/\Zz w a:=by go_enter func232,ntmps232;go_wp2;go_ret;exact⟨Yv,Below.refl _ _⟩
theorem MR(x y:Zi)(w:Zh):Calls prog 231 #[.string x,.string y] w fun e b=>e=.returned (.bool (less x y))/\Zz w b:=by go_enter func231,ntmps231;unfold less;go_wp2_with (go_at_call 249;refine(Vw x w).mono ?_;rintro e c ⟨rfl,a⟩);go_wp2;go_ret;exact⟨Yv,a⟩
theorem PY(a:Zk)(cap:Nat)(f:Zl)(s:Zi)(w:Zh)(q:Ad w w.heap.size a f)(S:f.length<=1000)(g:f.Pairwise (fun a b=>less a b=true)):
 Calls prog 202 #[.slice a f.length cap,.string s] w fun e O=>∃(i:Int) (ok:Bool),e=.returned (.tuple #[Zg i,.bool ok])/\(ok=true↔s∈f)/\Zz w O:=by
 have R:=Yx MR;go_enter func202,ntmps202;go_wp2
 go_loopw [7,8] (fun i j wr=>∃lo d:Nat,i=Zg lo/\j=Zg d/\lo<=d/\d<=f.length/\Hid ((∀j x,j<lo->f[j]?=some x->less x s=true)/\(∀j x,d<=j->f[j]?=some x->less x s=false))/\Zz w wr) (fun i j _=>(intOf j).toNat -(intOf i).toNat)
 case atStart=>exact⟨0,f.length,rfl,rfl,Nat.zero_le _,Zx,⟨fun j x h=>by omega,fun j x h F=>by have:=(Zw F).1;omega⟩,Below.refl _ _⟩
 case round=>
  obtain⟨lo,d,rfl,rfl,Q,J,A,c⟩:=hrel;have D:=c.size;by_cases hlt:lo<d
  .have t:(lo+d)/2<f.length:=Yw
   have l:=Yx (Zv t);obtain⟨b,K,E,L,k⟩:=(q.below c).at t;subst E;have F:=k _ _ l.o;clear k;generalize f[(lo+d)/2]=x at *
   go_wp2_with fail;refine(MR x s wr).mono ?_;rintro e P ⟨rfl,v⟩;have C:=c.trans (v.mono D);by_cases k:less x s=true
   .rw[k];go_wp2;refine⟨⟨(lo+d)/2+1,d,Yp,rfl,Yw,J,⟨?_,A.o.2⟩,C⟩,by simp[intOf];omega⟩;intro j y r n;rcases Nat.lt_or_ge j ((lo+d)/2)with h|h
    .have:=List.pairwise_iff_getElem.1 g j ((lo+d)/2) Yw t h;obtain⟨_,rfl⟩:=Zw n;obtain⟨_,e⟩:=Zw l.o;rw[e]at this;exact Cw this k
    .obtain rfl:j=(lo+d)/2:=Yw
     rw[l.o]at n;cases n;exact k
   .have u:less x s=false:=by simpa using k
    rw[u];go_wp2;refine⟨⟨lo,(lo+d)/2,rfl,Yp,Yw,Yw,⟨A.o.1,?_⟩,C⟩,by simp[intOf];omega⟩;intro j y r n;rcases Nat.lt_or_ge ((lo+d)/2) j with h|h
    .have z:=(Zw n).1;have:=List.pairwise_iff_getElem.1 g ((lo+d)/2) j t z h;obtain⟨_,rfl⟩:=Zw n;obtain⟨_,e⟩:=Zw l.o;rw[e]at this;cases B:less f[j] s with
     |false=>rfl
     |true=>rw[Cw this B]at u;cases u
    .obtain rfl:j=(lo+d)/2:=Yw
     rw[l.o]at n;cases n;exact u
  .obtain rfl:lo=d:=Yw
   have p:s∈f->f[lo]?=some s:=fun N=>by
    obtain⟨j,r⟩:=List.getElem?_of_mem N;rcases Nat.lt_or_ge j lo with h|h
    .have:=A.o.1 j s h r;rw[Co]at this;cases this
    .rcases Nat.lt_or_ge lo j with B|B
     .have z:=(Zw r).1;have H:=List.pairwise_iff_getElem.1 g lo j Yw z B;have I:=A.o.2 lo _ (Zx) (Zv Yw);obtain⟨_,e⟩:=Zw r;rw[e]at H;rw[H]at I;cases I
     .obtain rfl:j=lo:=Yw
      exact r
   have G:=Yx p;clear p;by_cases hn:lo<f.length
   .have l:=Yx (Zv hn);obtain⟨b,K,E,L,k⟩:=(q.below c).at hn;subst E;have F:=k _ _ l.o;clear k;generalize f[lo]=x at *
    by_cases he:x=s
    .subst he;have m:=Zs l.o;have o:=Yx m;clear m;have M:(x.toList==x.toList)=true:=Yv
     go_wp2
     go_ret2
     exact⟨_,true,by first|rfl|simp[Act.put],⟨fun _=>o.o,fun _=>rfl⟩,c⟩
    .have m:¬s∈f:=by intro h;have:=G.o h;rw[l.o]at this;exact he (Option.some.inj this)
     have o:=Yx m;clear m;have M:=Cd he;go_wp2_with (go_at_call 232;refine(Vx x wr).mono ?_;rintro e P ⟨rfl,v⟩);go_wp2
     go_ret2
     exact⟨_,false,by first|rfl|simp[Act.put],⟨(fun h=>by cases h),(fun h=>absurd h o.o)⟩,c.trans (v.mono D)⟩
   .have m:¬s∈f:=by intro h;have:=(Zw (G.o h)).1;omega
    have o:=Yx m;clear m;go_wp2
    go_ret2
    exact⟨_,false,by first|rfl|simp[Act.put],⟨(fun h=>by cases h),(fun h=>absurd h o.o)⟩,c⟩
section
attribute [local go_sem↓] Go.wp_at_zero Go.wp_at_succ
theorem RM(p:Pd)(s:Zi)(b:Nat)(w:Zh)(d:w.cell? (Ze b 0)=some (.string s)):
 Calls prog 197 #[.agg #[.string p.name,.string p.sum],Yz b] w fun e g=>e=.returned (.bool (decide (p.sum=s)))/\Zz w g:=by
 have j:b<w.heap.size:=World.block_lt_of_cell? w _ d;have i:¬w.heap.size=b:=Yw
 have c:∀o,Zz w (w.alloc o):=fun o=>Zy;by_cases h:p.sum=s
 .have f:(p.sum.toList==s.toList)=true:=by rw[h];simp
  have a:decide (p.sum=s)=true:=by simpa using h
  clear h;go_enter func197,ntmps197;go_wp2;go_ret;exact⟨by rw[a];rfl,c _⟩
 .have f:(p.sum.toList==s.toList)=false:=Cd h;have a:decide (p.sum=s)=false:=by simpa using h
  clear h;go_enter func197,ntmps197;go_wp2;go_ret;exact⟨by rw[a];rfl,c _⟩
theorem OG(a:Zk)(cap b:Nat)(d:List Pd)(s:Zi)(w:Zh)(g:AG w w.heap.size a d)(M:d.length<=1048576)(u:w.cell? (Ze b 0)=some (.string s)):
 Calls prog 228 #[.slice a d.length cap,.func (.func 197) #[] #[Yz b]] w fun e F=>∃r:Int,e=.returned (Zg r)/\(0<=r↔∃p∈d,p.sum=s)/\Zz w F:=by
 have A:=World.block_lt_of_cell? w _ u;go_enter func228,ntmps228;go_wp2
 go_loopw [8] (fun i wr=>∃k:Nat,k<=d.length/\i=Zg k/\Hid (∀j x,j<k->d[j]?=some x->¬x.sum=s)/\Zz w wr) (fun i _=>d.length -(intOf i).toNat)
 case atStart=>exact⟨0,Nat.zero_le _,rfl,(fun j x h=>by omega),Below.refl _ _⟩
 case round=>
  obtain⟨k,L,rfl,f,c⟩:=hrel;have C:=c.size;by_cases hlt:k<d.length
  .obtain⟨H,G,E,K,m⟩:=(g.below c).at hlt;subst E;have o:=Yx (Zv hlt);obtain⟨I,J⟩:=m k _ o.o;have B:=(c.cell (p:=⟨b,0,none⟩) A).trans u;clear m g;generalize d[k]=x at *
   go_wp2_with fail;refine(RM x s b wr B).mono ?_;rintro e N ⟨rfl,z⟩;have l:=c.trans (z.mono C);by_cases h:x.sum=s
   .have n:decide (x.sum=s)=true:=by simpa using h
    rw[n];go_wp2;go_ret;exact⟨_,rfl,⟨fun _=>⟨x,Zs o.o,h⟩,fun _=>by omega⟩,l⟩
   .have D:Hid (∀j y,j<k+1->d[j]?=some y->¬y.sum=s):=by
     intro j y v q;rcases Nat.lt_or_ge j k with t|t
     .exact f.o j y t q
     .obtain rfl:j=k:=Yw
      rw[o.o]at q;cases q;exact h
    have n:decide (x.sum=s)=false:=by simpa using h
    rw[n];clear h;go_wp2;exact⟨⟨k+1,Yw,Yp,D,l⟩,by simp[intOf];omega⟩
  .go_wp2;go_ret;refine⟨_,rfl,⟨fun h=>by omega,fun⟨p,hp,h⟩=> ?_⟩,c⟩;obtain⟨j,v,rfl⟩:=List.getElem_of_mem hp;exact absurd h (f.o j _ Yw (Zv v))
theorem Lu(a:Zk)(cap b:Nat)(c:List Pd)(s:Zi)(w:Zh)(d:AG w w.heap.size a c)(l:c.length<=1048576)(j:w.cell? (Ze b 0)=some (.string s)):
 Calls prog 196 #[.slice a c.length cap,.func (.func 197) #[] #[Yz b]] w fun e m=>∃ok,e=.returned (.bool ok)/\(ok=true↔∃p∈c,p.sum=s)/\Zz w m:=by
 go_enter func196,ntmps196;go_wp2_with fail;refine(OG a cap b c s w d l j).mono ?_;rintro e n ⟨r,rfl,i,f⟩;have g:=Yx i;clear i;by_cases h:0<=r
 .have k:decide ((0:Int)<=r)=true:=by simpa using h
  go_wp2;go_ret;exact⟨true,rfl,⟨(fun _=>g.o.1 h),(fun _=>rfl)⟩,f⟩
 .have k:decide ((0:Int)<=r)=false:=by simpa using h
  go_wp2;go_ret;exact⟨false,rfl,⟨(fun e=>by cases e),(fun e=>absurd (g.o.2 e) Yw)⟩,f⟩
theorem OH(p:Ld)(s:Zi)(b:Nat)(w:Zh)(d:w.cell? (Ze b 0)=some (.string s)):
 Calls prog 199 #[.agg #[Zg p.V,.string p.sum,Zg p.bg],Yz b] w fun e g=>e=.returned (.bool (decide (p.sum=s)))/\Zz w g:=by
 have j:b<w.heap.size:=World.block_lt_of_cell? w _ d;have i:¬w.heap.size=b:=Yw
 have c:∀o,Zz w (w.alloc o):=fun o=>Zy;by_cases h:p.sum=s
 .have f:(p.sum.toList==s.toList)=true:=by rw[h];simp
  have a:decide (p.sum=s)=true:=by simpa using h
  clear h;go_enter func199,ntmps199;go_wp2;go_ret;exact⟨by rw[a];rfl,c _⟩
 .have f:(p.sum.toList==s.toList)=false:=Cd h;have a:decide (p.sum=s)=false:=by simpa using h
  clear h;go_enter func199,ntmps199;go_wp2;go_ret;exact⟨by rw[a];rfl,c _⟩
theorem Mh(a:Zk)(cap b:Nat)(d:List Ld)(s:Zi)(w:Zh)(g:AI w w.heap.size a d)(M:d.length<=1048576)(u:w.cell? (Ze b 0)=some (.string s)):
 Calls prog 229 #[.slice a d.length cap,.func (.func 199) #[] #[Yz b]] w fun e F=>∃r:Int,e=.returned (Zg r)/\(0<=r↔∃p∈d,p.sum=s)/\Zz w F:=by
 have A:=World.block_lt_of_cell? w _ u;go_enter func229,ntmps229;go_wp2
 go_loopw [8] (fun i wr=>∃k:Nat,k<=d.length/\i=Zg k/\Hid (∀j x,j<k->d[j]?=some x->¬x.sum=s)/\Zz w wr) (fun i _=>d.length -(intOf i).toNat)
 case atStart=>exact⟨0,Nat.zero_le _,rfl,(fun j x h=>by omega),Below.refl _ _⟩
 case round=>
  obtain⟨k,L,rfl,f,c⟩:=hrel;have C:=c.size;by_cases hlt:k<d.length
  .obtain⟨H,G,E,K,m⟩:=(g.below c).at hlt;subst E;have o:=Yx (Zv hlt);obtain⟨I,J,c2⟩:=m k _ o.o;have B:=(c.cell (p:=⟨b,0,none⟩) A).trans u;clear m g;generalize d[k]=x at *
   go_wp2_with fail;refine(OH x s b wr B).mono ?_;rintro e N ⟨rfl,z⟩;have l:=c.trans (z.mono C);by_cases h:x.sum=s
   .have n:decide (x.sum=s)=true:=by simpa using h
    rw[n];go_wp2;go_ret;exact⟨_,rfl,⟨fun _=>⟨x,Zs o.o,h⟩,fun _=>by omega⟩,l⟩
   .have D:Hid (∀j y,j<k+1->d[j]?=some y->¬y.sum=s):=by
     intro j y v q;rcases Nat.lt_or_ge j k with t|t
     .exact f.o j y t q
     .obtain rfl:j=k:=Yw
      rw[o.o]at q;cases q;exact h
    have n:decide (x.sum=s)=false:=by simpa using h
    rw[n];clear h;go_wp2;exact⟨⟨k+1,Yw,Yp,D,l⟩,by simp[intOf];omega⟩
  .go_wp2;go_ret;refine⟨_,rfl,⟨fun h=>by omega,fun⟨p,hp,h⟩=> ?_⟩,c⟩;obtain⟨j,v,rfl⟩:=List.getElem_of_mem hp;exact absurd h (f.o j _ Yw (Zv v))
theorem Ko(a:Zk)(cap b:Nat)(c:List Ld)(s:Zi)(w:Zh)(d:AI w w.heap.size a c)(l:c.length<=1048576)(j:w.cell? (Ze b 0)=some (.string s)):
 Calls prog 198 #[.slice a c.length cap,.func (.func 199) #[] #[Yz b]] w fun e m=>∃ok,e=.returned (.bool ok)/\(ok=true↔∃p∈c,p.sum=s)/\Zz w m:=by
 go_enter func198,ntmps198;go_wp2_with fail;refine(Mh a cap b c s w d l j).mono ?_;rintro e n ⟨r,rfl,i,f⟩;have g:=Yx i;clear i;by_cases h:0<=r
 .have k:decide ((0:Int)<=r)=true:=by simpa using h
  go_wp2;go_ret;exact⟨true,rfl,⟨(fun _=>g.o.1 h),(fun _=>rfl)⟩,f⟩
 .have k:decide ((0:Int)<=r)=false:=by simpa using h
  go_wp2;go_ret;exact⟨false,rfl,⟨(fun e=>by cases e),(fun e=>absurd (g.o.2 e) Yw)⟩,f⟩
theorem RN(o d m:Nat)(O P L:Value)(Q D c a:Int)(I:List Kd)(n:List Pd)(k:List Ld)(s:Zi)(w:Zh)(f:Dr w o d m O P L Q D c a I n k)(U:n.length<=100)(T:k.length<=200):
 Calls prog 161 #[Yz d,.string s] w fun e M=>∃ok,e=.returned (.bool ok)/\(ok=true↔(∃p∈n,p.sum=s)\/∃l∈k,l.sum=s)/\Zz w M:=by
 have R:∀(fn:Fn) (first cap:Array Value) (w:Zh),(Instr.makeFunc fn first cap).run prog w=.ok (.func fn first cap) w:=fun _ _ _ _=>rfl;obtain⟨K,G,rfl⟩:=As f.cg;obtain⟨J,C,rfl⟩:=As f.ci;have S:=Yx f;obtain⟨W,j⟩:∃W,W=w.alloc (.cells #[.string s] 9):=⟨_,rfl⟩;have i:=(AA j).1;have h:W.cell? (Ze (w.heap.size) 0)=some (.string s):=by rw[j];simp
 have g:=f.below i;obtain⟨c6,c7⟩:=Aa.c2 g.box 6 7;have r:=Yx g;have x:=Yx j;clear j f g;go_enter func161,ntmps161;go_upto_region 1 with fail;rw[<-x.o];clear x;go_wp2_with fail;refine(Lu K G _ n s W (AG.own r.o.cg) Yw h).mono ?_;rintro e N ⟨E,rfl,z,b⟩;have q:=Yx (Dr.below r.o b);obtain⟨H,_⟩:=q.o.box 7 _ rfl;have y:=(b.cell (p:=⟨w.heap.size,0,none⟩) (World.block_lt_of_cell? W _ h)).trans h
 have u:=Yx z;clear z c6 c7 h;go_wp2_with fail;refine(Ko J C _ k s N (AI.own q.o.ci) Yw y).mono ?_;rintro e V ⟨F,rfl,A,B⟩;have v:=Yx A;have t:=(i.trans (b.mono i.size)).trans (B.mono (Zm i.size b.size));clear A H y;cases E
 .go_wp2;go_ret;exact⟨F,rfl,⟨(fun e=> .inr (v.o.1 e)),(fun e=>e.elim (fun e=>by have:=u.o.2 e;cases this) v.o.2)⟩,t⟩
 .go_wp2;go_ret;exact⟨true,rfl,⟨(fun _=> .inl (u.o.1 trivial)),(fun _=>rfl)⟩,t⟩
end
end Go.Proofs.YtcankpdbabaacaaGreatDoor
