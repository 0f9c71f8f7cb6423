import Derived.Test.YtlhhpofjkgmbeaaGreatDoorX03
import Derived.Lib.BytesEntry
set_option maxRecDepth 100000
set_option maxHeartbeats 16000000
namespace Go.Proofs.YtlhhpofjkgmbeaaGreatDoor
open Go.ChangeShapes Go.WideShapes Go.ChangeAt Go.RowKit _root_.Go.Proofs.Tryz
def kC(x:Kd×Value):Zj:=[.string x.1.sum,Zg x.1.born,.string x.1.text,x.2]
theorem DX(x:Kd×Value):(kC x).length=4:=rfl
structure AO (w:Zh) (base:Nat) (T P L:Value) (rs:Zj) (ks:List Kd) (ps:List Pd) (ls:List Ld):Prop where
 len:rs.length=ks.length
 ai:w.ownsRow base 131 4 T ks.length (Ab kC (ks.zip rs))
 refs:∀(i:Nat) (k:Kd) (r:Value),ks[i]?=some k->rs[i]?=some r->w.ownsRow base 9 1 r k.refs.length (k.refs.map Value.string)
 pins:w.ownsRow base 137 2 P ps.length (Ab pC ps)
 aq:w.ownsRow base 139 3 L ls.length (Ab lC ls)
 nd:((T::P::L::rs).filterMap Value.ownBlock).Nodup
theorem Dv{B:Nat}{w a:Zh}(h:Below B w.drew a):Below B w a:=⟨h.os,h.tape,h.output,h.size,h.block⟩
theorem As{w:Zh}{base:Nat}{e:TypeId}{size:Nat}{v:Value}{n:Nat}{b:Zj}(h:w.ownsRow base e size v n b):∃a c,v=.slice a n c:=by
 rcases h.2 with⟨rfl,rfl⟩|⟨g,d,f,rfl,_⟩
 ·exact⟨_,_,rfl⟩
 ·exact⟨_,_,rfl⟩
theorem Bk{w:Zh}{base:Nat}{e:TypeId}{size:Nat}{v:Value}{n:Nat}{a:Zj}(h:w.ownsRow base e size v n a){b:Nat}(c:∀g,v.ownBlock=some g->g≠b)(j:Nat)(u:Value):(w.setCell (Ze b j) u).ownsRow base e size v n a:=
 World.ownsRow.kept h (Ay w b j u) (.inr (fun e=>c b e rfl))
theorem d8{w:Zh}{d:Nat}{a i b c e j f g:Value}(h:Aa w d [a,i,b,c,e,j,f,g]):w.cell? (Ze d 0)=some a/\w.cell? (Ze d 2)=some b/\w.cell? (Ze d 3)=some c/\w.cell? (Ze d 4)=some e/\w.cell? (Ze d 6)=some f/\w.cell? (Ze d 7)=some g:=
 ⟨(h 0 _ rfl).1,(h 2 _ rfl).1,(h 3 _ rfl).1,(h 4 _ rfl).1,(h 6 _ rfl).1,(h 7 _ rfl).1⟩
def Bb(T P L:Value)(rs:Zj):List Nat:=T.ownBlock.toList++(P.ownBlock.toList++(L.ownBlock.toList++rs.filterMap Value.ownBlock))
theorem Fh(T P L:Value)(a:Zj):(T::P::L::a).filterMap Value.ownBlock=Bb T P L a:=by unfold Bb;cases hT:T.ownBlock<;>cases hP:P.ownBlock<;>cases hL:L.ownBlock<;>simp[hT,hP,hL]
theorem VZ{c n:Nat}{T a P L r:Option Nat}{R:List Nat}(h:(c::(T.toList++(P.toList++(L.toList++R)))).Nodup)(e:∀b∈c::(T.toList++(P.toList++(L.toList++R))),b<n)
 (i:∀g,r=some g->n<=g) (d:a=T∨∃t,a=some t/\n<=t/\∀g,r=some g->g≠t):(c::(a.toList++(P.toList++(L.toList++(R++r.toList))))).Nodup:=by
 rcases d with rfl|⟨t,rfl,j,f⟩
 ·cases a<;>cases P<;>cases L<;>cases r<;>simp_all [List.nodup_append]<;>grind
 ·cases T<;>cases P<;>cases L<;>cases r<;>simp_all [List.nodup_append]<;>grind
theorem Ma{a:Nat}{T P L:Option Nat}{R:List Nat}(h:(a::(T.toList++(P.toList++(L.toList++R)))).Nodup):
 (∀g,T=some g->g≠a)/\(∀g,P=some g->g≠a/\T≠some g)/\(∀g,L=some g->g≠a/\T≠some g)/\(∀g∈R,g≠a/\T≠some g):=by
 cases T<;>cases P<;>cases L<;>simp_all<;>grind
theorem Ai{w w':Zh}{base:Nat}{e:TypeId}{size:Nat}{v:Value}{n:Nat}{a:Zj}(h:w.ownsRow base e size v n a)(j:∀g,v.ownBlock=some g->w'.heap[g]?=w.heap[g]?):w'.ownsRow base e size v n a:=by
 refine⟨h.1,?_⟩;rcases h.2 with i|⟨g,b,c,rfl,d,f,rest⟩
 ·exact .inl i
 ·exact .inr ⟨g,b,c,rfl,d,(j g rfl).trans f,rest⟩
theorem GJ{c:List Kd}(b:(c.map (·.sum)).Nodup){u v:Kd}(d:u∈c)(e:v∈c)(h:u.sum=v.sum):u=v:=by
 induction c with
 |nil=>cases d
 |cons x xs ih=>
  simp only[List.map_cons,List.nodup_cons,List.mem_map,not_exists,not_and]at b;rcases List.mem_cons.1 d with a|a<;>rcases List.mem_cons.1 e with hv'|hv'
  ·rw[a,hv']
  ·exact absurd (a▸h.symm) (b.1 v hv')
  ·exact absurd (hv'▸h) (b.1 u a)
  ·exact ih b.2 a hv'
def z7:Zj:=[Zf,Zf,Zf,Zf,Zc,Zc,Zc]
theorem QE{w:Zh}{b:Nat}(h:Aa w b z7):(w.cell? (Ze b 0)=some Zf/\w.frozen? ⟨b,0,none⟩=false)/\(w.cell? (Ze b 1)=some Zf/\w.frozen? ⟨b,1,none⟩=false)/\(w.cell? (Ze b 2)=some Zf/\w.frozen? ⟨b,2,none⟩=false)/\(w.cell? (Ze b 3)=some Zf/\w.frozen? ⟨b,3,none⟩=false)/\(w.cell? (Ze b 4)=some Zc/\w.frozen? ⟨b,4,none⟩=false)/\(w.cell? (Ze b 5)=some Zc/\w.frozen? ⟨b,5,none⟩=false)/\(w.cell? (Ze b 6)=some Zc/\w.frozen? ⟨b,6,none⟩=false):=
 ⟨h 0 _ rfl,h 1 _ rfl,h 2 _ rfl,h 3 _ rfl,h 4 _ rfl,h 5 _ rfl,h 6 _ rfl⟩
theorem XG{w:Zh}{b:Nat}(h:Aa w b z7)(a c d e f g i:Value):Aa (((((((w.setCell (Ze b 0) a).setCell (Ze b 1) c).setCell (Ze b 2) d).setCell (Ze b 3) e).setCell (Ze b 4) f).setCell (Ze b 5) g).setCell (Ze b 6) i) b [a,c,d,e,f,g,i]:=
 (((((((h.set 0 a).set 1 c).set 2 d).set 3 e).set 4 f).set 5 g).set 6 i)
theorem GL{w:Zh}{base:Nat}{e:TypeId}{size:Nat}{v:Value}{n:Nat}{c:Zj}(h:w.ownsRow base e size v n c){b:Nat}(a:∀g,v.ownBlock=some g->g≠b)(d f i j k l m:Value):(((((((w.setCell (Ze b 0) d).setCell (Ze b 1) f).setCell (Ze b 2) i).setCell (Ze b 3) j).setCell (Ze b 4) k).setCell (Ze b 5) l).setCell (Ze b 6) m).ownsRow base e size v n c:=
 Bk (Bk (Bk (Bk (Bk (Bk (Bk h a 0 _) a 1 _) a 2 _) a 3 _) a 4 _) a 5 _) a 6 _
theorem Fo{B:Nat}{a w:Zh}(h:Below B a w){b:Nat}(c:B<=b)(d e f g i j k:Value):Below B a (((((((w.setCell (Ze b 0) d).setCell (Ze b 1) e).setCell (Ze b 2) f).setCell (Ze b 3) g).setCell (Ze b 4) i).setCell (Ze b 5) j).setCell (Ze b 6) k):=
 ((((((h.setCell c d).setCell c e).setCell c f).setCell c g).setCell c i).setCell c j).setCell c k
def Sl(b:Nat)(P L:Value):Prop:=(∀g,P.ownBlock=some g->g≠b)/\(∀g,L.ownBlock=some g->g≠b)/\(∀g,P.ownBlock=some g->L.ownBlock=some g->False)
theorem IX(base d m:Nat)(O P L:Value)(wd R given ae:Int)(c:List Kd)(s:List Pd)(q:List Ld)(w:Zh)(hd:Dr w base d m O P L wd R given ae c s q)(xO:(c.map (·.sum)).Nodup)(xT:∀k∈c,(k.sum.size:Int)=wd)(hk:c.length<=600)(hp:s.length<=100)(hl:q.length<=200)(yJ:∀k∈c,k.refs.length<=30):
 Calls prog 96 #[Yz d] w fun e I=>∃T P' L' rs,e=.returned (.agg #[Zg wd,Zg R,Zg given,Zg ae,T,P',L'])/\AO I w.heap.size T P' L' rs c s q/\Zz w I:=by
 obtain⟨pa,zY,rfl⟩:=As hd.ci;obtain⟨la,zX,rfl⟩:=As hd.ck;obtain⟨oa,xZ,rfl⟩:=As hd.ord;have HD:=Yx hd;have vJ:=hd.box.lt;obtain⟨W,hW⟩:∃W,W=w.alloc (.cells Yu 40):=⟨_,rfl⟩;have yD:=(AG hW).1;have yR:=(AG hW).2.1;have ZW:Aa W w.heap.size z7:=(AG hW).2.2;have zS:=Yx (hd.below yD)
 have zF:Hid (∀X,Zz W X->Calls prog 132 #[.slice pa s.length zY] X fun e I=>∃a' c',e=.returned (.slice a' s.length c')/\I.ownsRow X.heap.size 137 2 (.slice a' s.length c') s.length (Ab pC s)/\Zz X I):=
  fun X H=>IU pa zY s X (AS.own (Ae zS.o.ci H)) (by omega)
 have U:Hid (∀X,Zz W X->Calls prog 133 #[.slice la q.length zX] X fun e I=>∃a' c',e=.returned (.slice a' q.length c')/\I.ownsRow X.heap.size 139 3 (.slice a' q.length c') q.length (Ab lC q)/\Zz X I):=
  fun X H=>Ik la zX q X (AU.own (Ae zS.o.ck H)) (by omega)
 have HS:Hid (∀X,Zz W X->X.cell? (Ze d 0)=some (Zg wd)/\X.cell? (Ze d 2)=some (Zg R)/\X.cell? (Ze d 3)=some (Zg given)/\X.cell? (Ze d 4)=some (Zg ae)/\X.cell? (Ze d 6)=some (.slice pa s.length zY)/\X.cell? (Ze d 7)=some (.slice la q.length zX)):=
  fun X H=>d8 (zS.o.box.below H)
 have D0:Below W.heap.size W W.drew:=(Below.refl _ _).drew;have D1:∀o,Zz W (W.alloc o).drew:=fun o=>(Zy).drew;have HW:=Yx hW;have yL:=Yx ZW;have zC:=Yx yR;clear hd hW ZW yR;go_enter func96,ntmps96;go_upto_region 1 with fail;rw[←HW.o];clear HW
 go_cut [3] (fun v wx=>∃(A:Nat) (E z:Zk) (F c2:Nat),v=Yz A/\Hid (Aa wx A (Yt wd R given ae none 0 0 E s.length F z q.length c2)/\wx.ownsRow W.heap.size 137 2 (.slice E s.length F) s.length (Ab pC s)/\wx.ownsRow W.heap.size 139 3 (.slice z q.length c2) q.length (Ab lC q)/\Sl A (.slice E s.length F) (.slice z q.length c2)/\W.heap.size<=A/\Zz W wx))
 case first=>
  go_region_held3 (fun I=>I.cell? (Ze d 0)=some (Zg wd)/\I.cell? (Ze d 2)=some (Zg R)/\I.cell? (Ze d 3)=some (Zg given)/\I.cell? (Ze d 4)=some (Zg ae)/\I.cell? (Ze d 6)=some (.slice pa s.length zY)/\I.cell? (Ze d 7)=some (.slice la q.length zX))
   (first
     |with_reducible exact HS.o _ D0
     |with_reducible exact HS.o _ (D1 _)
     |with_reducible exact HS.o _ G
     |with_reducible exact HS.o _ S
     |with_reducible exact HS.o _ (G.alloc G.size _)
     |with_reducible exact HS.o _ (S.alloc S.size _)
     |with_reducible exact HS.o _ (Fo S Y _ _ _ _ _ _ _))
   (first
     |(go_at_call 132;guard_target=~Calls prog 132 _ (World.drew (World.alloc W _)) _;refine(zF.o (W.alloc (.cells Yu 40)).drew (D1 _)).mono ?_;rintro e B ⟨E,F,rfl,N,zA⟩;have G:Below W.heap.size W B:=(D1 _).trans (zA.mono (by simp));have nA:Aa B W.heap.size z7:=(Aa.below (w:=W.alloc (.cells Yu 40)) (Aa.new W _ _) (Dv zA)))
     |(go_at_call 132;guard_target=~Calls prog 132 _ (World.drew W) _;refine(zF.o W.drew D0).mono ?_;rintro e B ⟨E,F,rfl,N,zA⟩;have G:Below W.heap.size W B:=D0.trans zA)
     |(go_at_call 133;have yG:=nA;refine(U.o B G).mono ?_;rintro e w2 ⟨z,c2,rfl,Q,C⟩;have S:Below W.heap.size W w2:=G.trans (C.mono G.size);have n2:Aa w2 W.heap.size z7:=(Aa.below nA C);have Y:W.heap.size<=W.heap.size:=Zx;obtain⟨⟨y0,q0⟩,⟨y1,q1⟩,⟨y2,q2⟩,⟨y3,q3⟩,⟨y4,q4⟩,⟨y5,q5⟩,y6,q6⟩:=QE n2)
     |(go_at_call 133;guard_target=~Calls prog 133 _ (World.alloc B _) _;refine(U.o (B.alloc (.cells Yu 40)) (G.alloc G.size _)).mono ?_;rintro e w2 ⟨z,c2,rfl,Q,C⟩;have S:Below W.heap.size W w2:=(G.alloc G.size _).trans (C.mono (by have:=G.size;simp;omega));have nB:Aa w2 B.heap.size z7:=(Aa.below (Aa.new B _ _) C);have Y:W.heap.size<=B.heap.size:=G.size;obtain⟨⟨y0,q0⟩,⟨y1,q1⟩,⟨y2,q2⟩,⟨y3,q3⟩,⟨y4,q4⟩,⟨y5,q5⟩,y6,q6⟩:=QE nB)
     |(go_at_call 133;refine(U.o B G).mono ?_;rintro e w2 ⟨z,c2,rfl,Q,C⟩;have nC:=N;have S:Below W.heap.size W w2:=G.trans (C.mono G.size)))
  all_goals (go_wp2_with fail;go_meet)
  all_goals first
   |(have yG:=nA
     have zz:=zC.o;have l1:∀g,(Value.slice E s.length F).ownBlock=some g->W.heap.size+1<=g/\g<B.heap.size:=fun g a=>by have:=Ac N a;simp at this;omega
     have l2:∀g,(Value.slice z q.length c2).ownBlock=some g->B.heap.size<=g:=fun g a=>(Ac Q a).1;have z1:W.heap.size+1<=B.heap.size:=by have:=zA.size;simp at this;omega
     exact⟨W.heap.size,E,z,F,c2,rfl,XG n2 _ _ _ _ _ _ _,GL (Ae (N.mono (by simp)) C) (fun g a=>by have:=l1 g a;omega) _ _ _ _ _ _ _,GL (Q.mono (by omega)) (fun g a=>by have:=l2 g a;omega) _ _ _ _ _ _ _,⟨fun g a=>by have:=l1 g a;omega,fun g a=>by have:=l2 g a;omega,fun g a zO=>by have:=l1 g a;have:=l2 g zO;omega⟩,Zx,Fo S (Zx) _ _ _ _ _ _ _⟩)
   |(have yG:=nB
     have l1:∀g,(Value.slice E s.length F).ownBlock=some g->W.heap.size<=g/\g<B.heap.size:=fun g a=>by have:=Ac N a;simp at this;omega
     have l2:∀g,(Value.slice z q.length c2).ownBlock=some g->B.heap.size+1<=g:=fun g a=>by have:=(Ac Q a).1;simp at this;omega
     exact⟨B.heap.size,E,z,F,c2,rfl,XG nB _ _ _ _ _ _ _,GL (Ae (Ae (N.mono (by simp)) (Zy)) C) (fun g a=>by have:=l1 g a;omega) _ _ _ _ _ _ _,GL (Q.mono (by simp;omega)) (fun g a=>by have:=l2 g a;omega) _ _ _ _ _ _ _,⟨fun g a=>by have:=l1 g a;omega,fun g a=>by have:=l2 g a;omega,fun g a zO=>by have:=l1 g a;have:=l2 g zO;omega⟩,Y,Fo S Y _ _ _ _ _ _ _⟩)
   |(have yG:=nC
     have l1:∀g,(Value.slice E s.length F).ownBlock=some g->W.heap.size<=g/\g<B.heap.size:=fun g a=>by have:=Ac N a;simp at this;omega
     have l2:∀g,(Value.slice z q.length c2).ownBlock=some g->B.heap.size<=g/\g<w2.heap.size:=fun g a=>Ac Q a;have z2:=C.size;exact⟨w2.heap.size,E,z,F,c2,rfl,Aa.new w2 _ _,Ae (Ae (N.mono (by simp)) C) (Zy),Ae (Q.mono G.size) (Zy),⟨fun g a=>by have:=l1 g a;omega,fun g a=>by have:=l2 g a;omega,fun g a zO=>by have:=l1 g a;have:=l2 g zO;omega⟩,S.size,S.alloc S.size _⟩)
 case rest=>
  revert wc;intro wN hcut;obtain⟨A,E,z,F,c2,rfl,HC⟩:=hcut;have yV:Hid (Zz w wN):=yD.trans (HC.o.2.2.2.2.2.mono yD.size);have dN:=(zS.o.box.below HC.o.2.2.2.2.2);obtain⟨e5,_⟩:=dN 5 _ rfl;have zN:=HC.o.2.2.2.2.2.size;have vO:W.heap.size<=A:=HC.o.2.2.2.2.1;have xA:Hid (Aa wN w.heap.size z7):=Aa.below (v:=Zf) (l:=z7.tail) yL.o HC.o.2.2.2.2.2;clear dN zF U HS D0 D1 yL;go_wp2
  go_loopw [40] (fun i wr=>∃(k:Nat) (T:Value) (rs:Zj),k<=c.length/\i=Zg k/\Hid (Aa wr A [Zg wd,Zg R,Zg given,Zg ae,T,.slice E s.length F,.slice z q.length c2]/\Aa wr w.heap.size z7/\wr.ownsRow W.heap.size 131 4 T k (Ab kC ((c.take k).zip rs))/\rs.length=k/\(∀(i:Nat) (x:Kd) (r:Value),(c.take k)[i]?=some x->rs[i]?=some r->wr.ownsRow W.heap.size 9 1 r x.refs.length (x.refs.map Value.string))/\wr.ownsRow W.heap.size 137 2 (.slice E s.length F) s.length (Ab pC s)/\wr.ownsRow W.heap.size 139 3 (.slice z q.length c2) q.length (Ab lC q)/\(A::Bb T (.slice E s.length F) (.slice z q.length c2) rs).Nodup)/\Zz w wr) (fun i _=>c.length -(intOf i).toNat)
  case atStart=>
   refine⟨0,Zc,[],Nat.zero_le _,rfl,⟨HC.o.1,xA.o,⟨rfl,.inl ⟨rfl,rfl⟩⟩,rfl,fun i x r hx=>by simp at hx,HC.o.2.1,HC.o.2.2.1,?_⟩,yV.o⟩;have h3:=HC.o.2.2.2.1;unfold Sl at h3;unfold Bb;generalize (Value.slice E s.length F).ownBlock=x1 at *
   generalize (Value.slice z q.length c2).ownBlock=x2 at *
   cases x1<;>cases x2<;>simp_all [Value.ownBlock]<;>grind
  case round=>
   obtain⟨k,T,rs,vK,rfl,HI,D⟩:=hrel;by_cases hlt:k<c.length
   ·obtain⟨n,f,hn,hM,hH⟩:=HD.o.map;have yF:=D.size;have ho:wr.ownsRow base 190 8 (.slice oa c.length xZ) c.length (AA (c.map (·.sum))):=NC HD.o.ord D (fun g a=>(Ac HD.o.ord a).2);obtain⟨og,oc,xI,_,vL⟩:=Cf ho (fun e=>by injection e with _ h2 _;omega);cases xI;have HG:Hid (c[k]?=some c[k]):=Zv hlt;have K:c[k]∈c:=List.getElem_mem hlt;have xV:=xT _ K;have vG:=yJ _ K
    have yP:(c.map (·.sum))[k]?=some c[k].sum:=by simp[hlt]
    have p:∀j,j<8->wr.cell? (Ze og (k *8+j))=some (.int .u8 (kB c[k].sum j)):=fun j hj=>(ho.cellAt _ (by omega)).trans (ED yP hj);obtain⟨M,rc,yO,yX⟩:∃M rc,f (keyL c[k].sum)=some (Ee c[k] M rc)/\Hid (Ad w w.heap.size M c[k].refs):=by
     rcases hH _ xV with⟨_,xP⟩|⟨u,M,rc,hu,xU,xK,xR⟩
     ·exact absurd ⟨_,K,rfl⟩ xP
     ·obtain rfl:=GJ xO hu K xU;exact⟨M,rc,xK,xR.row⟩
    have fq:∀X,Zz wr X->(Instr.lookup 152 (.map (some m)) (Cm c[k].sum) false).run prog X=.ok (Ee c[k] M rc) X:=fun X H=>by have:=(hM.aj (D.trans (H.mono yF)) hM.lt).look keyed underlying152 (Kf _) (EC c[k].sum);rw[yO]at this;exact this
    have dr:Aa wr d _:=Aa.below HD.o.box D;have yN:=p 0 (by omega);have xB:=p 1 (by omega);have xC:=p 2 (by omega);have xD:=p 3 (by omega);have xE:=p 4 (by omega);have xF:=p 5 (by omega);have xG:=p 6 (by omega);have xH:=p 7 (by omega);rw[Nat.add_zero]at yN;have HX:Hid (c.take (k+1)=c.take k++[c[k]]):=Zu hlt;unfold Cm CO Ee at fq;clear ho p yP hH yO K hM;generalize c[k]=x at *
    obtain⟨t,zI⟩:∃t,t=wr.alloc (.cells (Yw (kB x.sum)) 190):=⟨_,rfl⟩;have b1:=(AG zI).1;have z1:=(AG zI).2.1;have K1:=(AG zI).2.2
    have zZ:Hid (∀X,Zz t X->X.cell? (Ze d 1)=some (.map (some m))/\(X.cell? (Ze (wr.heap.size) 0)=some (.int .u8 (kB x.sum 0))/\X.cell? (Ze (wr.heap.size) 1)=some (.int .u8 (kB x.sum 1))/\X.cell? (Ze (wr.heap.size) 2)=some (.int .u8 (kB x.sum 2))/\X.cell? (Ze (wr.heap.size) 3)=some (.int .u8 (kB x.sum 3))/\X.cell? (Ze (wr.heap.size) 4)=some (.int .u8 (kB x.sum 4))/\X.cell? (Ze (wr.heap.size) 5)=some (.int .u8 (kB x.sum 5))/\X.cell? (Ze (wr.heap.size) 6)=some (.int .u8 (kB x.sum 6))/\X.cell? (Ze (wr.heap.size) 7)=some (.int .u8 (kB x.sum 7)))/\(Instr.lookup 152 (.map (some m)) (.agg (Yw (kB x.sum))) false).run prog X=.ok (.agg #[.string x.sum,Zg x.born,.string x.text,.slice M x.refs.length rc]) X):=
     fun X H=>⟨((dr.below (b1.trans (H.mono b1.size))) 1 _ rfl).1,ZX (H.block _ (by omega)) K1,fq X (b1.trans (H.mono b1.size))⟩
    have D0:Below t.heap.size t t.drew:=(Below.refl _ _).drew;have D1:∀o,Zz t (t.alloc o).drew:=fun o=>(Zy).drew;have yK:=Yx zI;have zG:=Yx z1;have yU:=Yx b1;clear zI z1 fq K1 b1 dr;go_upto_region 5 with fail;rw[←yK.o];clear yK yN xB xC xD xE xF xG xH
    go_region_held3 (fun X=>X.cell? (Ze d 1)=some (.map (some m))/\(X.cell? (Ze (wr.heap.size) 0)=some (.int .u8 (kB x.sum 0))/\X.cell? (Ze (wr.heap.size) 1)=some (.int .u8 (kB x.sum 1))/\X.cell? (Ze (wr.heap.size) 2)=some (.int .u8 (kB x.sum 2))/\X.cell? (Ze (wr.heap.size) 3)=some (.int .u8 (kB x.sum 3))/\X.cell? (Ze (wr.heap.size) 4)=some (.int .u8 (kB x.sum 4))/\X.cell? (Ze (wr.heap.size) 5)=some (.int .u8 (kB x.sum 5))/\X.cell? (Ze (wr.heap.size) 6)=some (.int .u8 (kB x.sum 6))/\X.cell? (Ze (wr.heap.size) 7)=some (.int .u8 (kB x.sum 7)))/\(Instr.lookup 152 (.map (some m)) (.agg (Yw (kB x.sum))) false).run prog X=.ok (.agg #[.string x.sum,Zg x.born,.string x.text,.slice M x.refs.length rc]) X)
     (first|with_reducible exact zZ.o _ D0|with_reducible exact zZ.o _ (D1 _))
     (fail)
    all_goals
     clear zZ D0 D1;obtain⟨W2,zJ⟩:∃W2,W2=(t.alloc (.cells #[.string x.sum,Zg x.born,.string x.text,.slice M x.refs.length rc] 131)).drew:=⟨_,rfl⟩;have b2:Below t.heap.size t W2:=by rw[zJ];exact(Zy).drew
     have z2:W2.heap.size=t.heap.size+1:=by rw[zJ];simp
     have K2:Aa W2 t.heap.size [.string x.sum,Zg x.born,.string x.text,.slice M x.refs.length rc]:=by rw[zJ];exact Aa.new t _ _
     have z1:=zG.o;have yB:Below wr.heap.size wr W2:=yU.o.trans (b2.mono (by omega));have R2:Ad W2 W2.heap.size M x.refs:=Ad.mono (Ad.below yX.o (D.trans (yB.mono yF))) (by omega);rw[←zJ];obtain⟨k3,_⟩:=K2 3 _ rfl;have yA:=Yx z2;have xQ:x.refs.length<=1048576:=by omega
     clear zJ z1 z2;go_wp2_with fail;refine(El M rc x.refs W2 R2 xQ).mono ?_;rintro e w3 ⟨a3,c3,rfl,yE,zM⟩;clear k3;have z1:=zG.o;have z2:=yA.o;have zT:Below wr.heap.size wr w3:=yB.trans (zM.mono (by omega));have z3:=zM.size;obtain⟨i1,i2,Z,i4,i5,i6,i7,i8⟩:=HI.o;have zW:=zC.o;have S3:=Aa.below i1 zT;obtain⟨ta,tc,rfl⟩:=As Z;obtain⟨s4,f4⟩:=S3 4 _ rfl;have xS:A<wr.heap.size:=i1.lt
     have yI:¬A=t.heap.size:=by omega
     have vE:¬t.heap.size=A:=by omega
     obtain⟨k0,k1,k2⟩:=Aa.c3 (Aa.below K2 zM) 0 1 2;obtain⟨k3,g3⟩:=Aa.below K2 zM 3 _ rfl;have yZ:=Yx (Ae Z zT);have zH:∀g,(Value.slice ta k tc).ownBlock=some g->W.heap.size<=g/\g<wr.heap.size:=fun g a=>Ac Z a;have yC:∀g,(Value.slice a3 x.refs.length c3).ownBlock=some g->W2.heap.size<=g/\g<w3.heap.size:=fun g a=>Ac yE a;have yW:=Yx yE;have zR:=Yx zT;have yY:=Yx S3
     have vH:W.heap.size<=w3.heap.size:=by omega
     obtain⟨i0,hi,xW,xX,xY⟩:=info_parts GF;have yM:=Yx z3;clear K2 b2 yB R2 i1 i2 Z i4 i5 i6 i7 i8 zM yE zT S3 z1 z2 z3 zW;go_wp2_with (first
      |(at_builtin;refine wpList_append_own_at _ rfl _ _ 36 rfl W.heap.size 131 i0 _ 4 64 underlying36 hi xW xX xY rfl (by decide) _ k (Ab kC ((c.take k).zip rs)) rfl ?d0 ⟨w3.heap.size,0,none⟩ 1 1 (kC (x,.slice a3 x.refs.length c3)) rfl rfl ?d2 ?d3 ?d4 ?d5 ?d6 ?_)
      |go_in)
     case d0=>exact Ae (Bk yZ.o (fun g a=>by have:=zH g a;have:=zG.o;omega) 3 _) (Zy)
     case d2=>
      intro j u hu;rw[Go.WideShapes.add_plain,Nat.zero_add];have:=(Aa.new (w3.setCell (Ze (t.heap.size) 3) (.slice a3 x.refs.length c3)) (kC (x,.slice a3 x.refs.length c3)) 131) j u hu;simpa [kC]using this.1
     case d3=>
      intro u hu;simp[kC]at hu;rcases hu with rfl|rfl|rfl|rfl<;>rfl
     case d4=>unfold maxLen;omega
     case d5=>omega
     case d6=>simp;omega
     intro v4 w4 zE zP xN zK;obtain⟨g4,c4,rfl,vA,vC⟩:=Cf zE (fun e=>by subst e;rcases zE.2 with⟨_,hn⟩|⟨_,_,_,e,_⟩<;>first|omega|cases e);obtain⟨i1,i2,Z,i4,i5,i6,i7,i8⟩:=HI.o;have nf:=Ma i8;have z1:=zG.o;have z2:=yA.o;have z3:=yM.o;have zW:=zC.o;have H:∀b,b<w3.heap.size->b≠t.heap.size->(Value.slice ta k tc).ownBlock≠some b->w4.heap[b]?=w3.heap[b]?:=fun b V zA C=>by rw[zP.block b (by simp;omega) (fun e=>C e.symm),Below.heap_alloc _ _ _ (by simp;omega),Below.heap_setCell _ _ _ _ (by simpa using zA)]
     have S4:=Aa.same yY.o (H A (by omega) yI (fun e=>nf.1 _ e rfl));obtain⟨_,vI⟩:=S4 4 _ rfl;obtain⟨vM,_⟩:=S4 4 _ rfl;have vD:g4≠A:=by
      rcases zK with ha|ha
      ·exact nf.1 g4 ha.symm
      ·simp[Value.ownBlock]at ha;omega
     have HF:=Yx (Zn S4 (Zn H (Zn zE (Zn zK zP))));clear S4 H zE zK zP i1 i2 Z i4 i5 i6 i7 i8 nf z1 z2 z3 zW s4 f4 k0 k1 k2 k3 g3 xN;go_wp2;obtain⟨S4,H,zE,zK,zP⟩:=HF.o;obtain⟨i1,i2,Z,i4,i5,i6,i7,i8⟩:=HI.o;have nf:=Ma i8;have z1:=zG.o;have z2:=yA.o;have z3:=yM.o;have zW:=zC.o
     have hY:∀b,b<w3.heap.size->b≠t.heap.size->b≠A->(Value.slice ta k tc).ownBlock≠some b->(w4.setCell (Ze A 4) (Za g4 (k+1) c4)).heap[b]?=w3.heap[b]?:=fun b h1 h2 h3 h4=>(Below.heap_setCell _ _ _ _ (by simpa using h3)).trans (H b h1 h2 h4)
     have zU:∀b,b<wr.heap.size->b≠A->(Value.slice ta k tc).ownBlock≠some b->(w4.setCell (Ze A 4) (Za g4 (k+1) c4)).heap[b]?=wr.heap[b]?:=fun b h1 h3 h4=>(hY b (by omega) (by omega) h3 h4).trans (zR.o.block b h1);have yS:∀r∈rs,∀g,r.ownBlock=some g->g<wr.heap.size:=by
      intro r J g a;obtain⟨i,hi⟩:=List.getElem?_of_mem J;have xM:i<k:=by have:=(Zw hi).1;omega
      exact(Ac (i5 i _ r (by rw[List.getElem?_take_of_lt xM];exact Zv (by omega)) hi) a).2
     refine⟨⟨k+1,Za g4 (k+1) c4,rs++[.slice a3 x.refs.length c3],by omega,by go_num,⟨Aa.set S4 4 _,?_,?_,?_,?_,?_,?_,?_⟩,?_⟩,by simp[intOf];omega⟩
     ·exact Aa.same i2 (zU w.heap.size (by omega) (by omega) (fun e=>by have:=(zH _ e).1;omega))
     ·rw[HX.o,List.zip_append (by rw[i4,List.length_take];omega),Bi];exact Bk zE (fun g a=>by simp[Value.ownBlock]at a;omega) 4 _
     ·simp[i4]
     ·intro i y r hy J;rw[HX.o]at hy;have yH:(c.take k).length=k:=by rw[List.length_take];omega
      rcases Nat.lt_or_ge i k with h|h
      ·rw[List.getElem?_append_left (by omega)]at hy J;refine Ai (i5 i y r hy J) (fun g a=> ?_);have:=nf.2.2.2 g (List.mem_filterMap.2 ⟨r,Zs J,a⟩);exact zU g (yS r (Zs J) g a) this.1 this.2
      ·have xL:i=k:=by have:=(Zw J).1;simp at this;omega
       subst xL;rw[List.getElem?_append_right (by omega),yH,Nat.sub_self]at hy;rw[List.getElem?_append_right (by omega),i4,Nat.sub_self]at J;simp at hy J;subst hy;subst J;refine Ai (World.ownsRow.mono yW.o (by omega)) (fun g a=> ?_);have:=yC g a;exact hY g this.2 (by omega) (by omega) (fun e=>by have:=(zH g e).2;omega)
     ·exact Ai i6 (fun g a=>zU g (Ac i6 a).2 (nf.2.1 g a).1 (nf.2.1 g a).2)
     ·exact Ai i7 (fun g a=>zU g (Ac i7 a).2 (nf.2.2.1 g a).1 (nf.2.2.1 g a).2)
     ·unfold Bb;rw[List.filterMap_append];have xJ:List.filterMap Value.ownBlock [.slice a3 x.refs.length c3]=(Value.slice a3 x.refs.length c3).ownBlock.toList:=by cases h:(Value.slice a3 x.refs.length c3).ownBlock<;>simp[h]
      rw[xJ];refine VZ (n:=wr.heap.size) i8 ?_ (fun g a=>by have:=(yC g a).1;omega) ?_
      ·intro b V;simp only[List.mem_cons,List.mem_append,Option.mem_toList,List.mem_filterMap]at V;rcases V with rfl|V|V|V|⟨r,J,V⟩
       ·exact xS
       ·exact(zH _ V).2
       ·exact(Ac i6 V).2
       ·exact(Ac i7 V).2
       ·exact yS r J b V
      ·rcases zK with ha|ha
       ·exact .inl ha
       ·refine .inr ⟨w3.heap.size+1,by simpa using ha,by omega,fun g a=>by have:=(yC g a).2;omega⟩
     ·have hq:Below w.heap.size w w3:=D.trans (zR.o.mono yF);exact(((hq.setCell (by simp;omega) _).alloc (by simp;omega) _).grown zP (by simp;omega) (fun g a=>by have:=(zH g a).1;omega)).setCell (by simp;omega) _
   ·obtain rfl:k=c.length:=by omega
    obtain⟨i1,i2,Z,i4,i5,i6,i7,i8⟩:=HI.o;have zW:=zC.o;obtain⟨⟨y0,q0⟩,⟨y1,q1⟩,⟨y2,q2⟩,⟨y3,q3⟩,⟨y4,q4⟩,⟨y5,q5⟩,y6,q6⟩:=QE i2;obtain⟨ta,tc,rfl⟩:=As Z;obtain⟨x0,x1,x2,x3,x4,x5,x6⟩:=Aa.c7 i1 0 1 2 3 4 5 6;have vF:¬A=w.heap.size:=by omega
    have yT:¬w.heap.size=A:=by omega
    have zB:=Yx (Zn i2 (Zn Z (Zn i4 (Zn i5 (Zn i6 (Zn i7 i8))))));clear i1 i2 Z i4 i5 i6 i7 i8 zW;go_wp2;have zW:=zC.o
    have zV:∀{e:TypeId} {size:Nat} {v:Value} {n:Nat} {xs:Zj},wr.ownsRow W.heap.size e size v n xs->(((((((wr.setCell (Ze (w.heap.size) 0) (Zg wd)).setCell (Ze (w.heap.size) 1) (Zg R)).setCell (Ze (w.heap.size) 2) (Zg given)).setCell (Ze (w.heap.size) 3) (Zg ae)).setCell (Ze (w.heap.size) 4) (.slice ta c.length tc)).setCell (Ze (w.heap.size) 5) (.slice E s.length F)).setCell (Ze (w.heap.size) 6) (.slice z q.length c2)).ownsRow w.heap.size e size v n xs:=fun h=>World.ownsRow.mono (GL h (fun g a=>by have:=(Ac h a).1;omega) _ _ _ _ _ _ _) (by omega)
    have yQ:c.take c.length=c:=Zt (Zx);refine bodyPost_ret (v:=.agg (Ys wd R given ae ta c.length tc E s.length F z q.length c2)) (by simp[results,results96,go_sem,y0,y1,y2,y3,y4,y5,y6]) rfl ⟨_,_,_,rs,rfl,⟨zB.o.2.2.1,?_,?_,zV zB.o.2.2.2.2.1,zV zB.o.2.2.2.2.2.1,?_⟩,Fo D (Zx) _ _ _ _ _ _ _⟩
    ·have:=zB.o.2.1;rw[yQ]at this;exact zV this
    ·intro i y r hy J;exact zV (zB.o.2.2.2.1 i y r (by rw[yQ];exact hy) J)
    ·rw[Fh];exact(List.nodup_cons.1 zB.o.2.2.2.2.2.2).2
def kI(s:Zi):List Int:=[kB s 0,kB s 1,kB s 2,kB s 3,kB s 4,kB s 5,kB s 6,kB s 7]
def EZ(s t:Zi):Int:=Lib.compareBytes (Lib.bytesOf (kI s)) (Lib.bytesOf (kI t))
theorem Wa(x:List UInt8):Lib.compareBytes x x=0:=by
 induction x with
 |nil=>rfl
 |cons a x ih=>unfold Lib.compareBytes;simp[ih,UInt8.lt_irrefl]
theorem NE(z:List UInt8):∀(x y:List UInt8),x.length=y.length->Lib.compareBytes (x++z) (y++z)=Lib.compareBytes x y
 |[],[],_=>by rw[List.nil_append,Wa];rfl
 |a::x,b::y,h=>by have c:=NE z x y (by simpa using h);show Lib.compareBytes (a::(x++z)) (b::(y++z))=_;unfold Lib.compareBytes;rw[c]
theorem Sm:∀(x y:List UInt8),x.length=y.length->(Lib.compareBytes x y<0↔x<y)
 |[],[],_=>by simp[Lib.compareBytes]
 |a::x,b::y,h=>by
  have c:=Sm x y (by simpa using h);unfold Lib.compareBytes;rw[List.cons_lt_cons_iff,←c];by_cases h1:a<b
  ·simp[h1]
  ·by_cases h2:b<a
   ·have:¬a=b:=fun e=>by subst e;exact absurd h2 (UInt8.lt_irrefl _)
    simp[h1,h2,this]
   ·have:a=b:=UInt8.le_antisymm (UInt8.not_lt.1 h2) (UInt8.not_lt.1 h1);simp[this]
theorem PT:∀(x y:List UInt8),x.length=y.length->(Lib.compareBytes x y=0↔x=y)
 |[],[],_=>by simp[Lib.compareBytes]
 |a::x,b::y,h=>by
  have c:=PT x y (by simpa using h);unfold Lib.compareBytes;by_cases h1:a<b
  ·have:¬a=b:=fun e=>by subst e;exact absurd h1 (UInt8.lt_irrefl _)
   simp[h1,this]
  ·by_cases h2:b<a
   ·have:¬a=b:=fun e=>by subst e;exact absurd h2 (UInt8.lt_irrefl _)
    simp[h1,h2,this]
   ·have:a=b:=UInt8.le_antisymm (UInt8.not_lt.1 h2) (UInt8.not_lt.1 h1);simp[this,c]
theorem Kz(s:Zi)(h:s.size<=8):Lib.bytesOf (kI s)=s.data.toList++List.replicate (8 -s.size) 0:=by
 have c:=BC s;have b:∀i,(kB s i).toNat.toUInt8=(s.data.toList[i]?).getD 0:=fun i=>by unfold kB;simp
 unfold kI Lib.bytesOf;simp only[List.map_cons,List.map_nil,b];apply List.ext_getElem?;intro i;rw[List.getElem?_append];rw[c];rcases Nat.lt_or_ge i 8 with a|a
 ·have e:([(s.data.toList[0]?).getD 0,(s.data.toList[1]?).getD 0,(s.data.toList[2]?).getD 0,(s.data.toList[3]?).getD 0,(s.data.toList[4]?).getD 0,(s.data.toList[5]?).getD 0,(s.data.toList[6]?).getD 0,(s.data.toList[7]?).getD 0]:List UInt8)[i]?=some ((s.data.toList[i]?).getD 0):=by rcases(show i=0∨i=1∨i=2∨i=3∨i=4∨i=5∨i=6∨i=7 by omega)with rfl|rfl|rfl|rfl|rfl|rfl|rfl|rfl<;>rfl
  rw[e];by_cases hi:i<s.size
  ·rw[if_pos hi,Zv (by omega)];rfl
  ·rw[if_neg hi,List.getElem?_eq_none (by omega),List.getElem?_replicate,if_pos (by omega)];rfl
 ·rw[List.getElem?_eq_none (by simp;omega),if_neg (by omega),List.getElem?_eq_none (by simp;omega)]
theorem Ul{s t:Zi}(b:s.size<=8)(a:t.size=s.size):EZ s t<0↔less s t=true:=by unfold EZ less;rw[Kz s b,Kz t (by omega),a,NE _ _ _ (by rw[BC,BC,a]),Sm _ _ (by rw[BC,BC,a]),ByteArray.toList_eq,ByteArray.toList_eq,Nz]
theorem Sn{s t:Zi}(b:s.size<=8)(a:t.size=s.size):EZ s t=0↔s=t:=by
 unfold EZ;rw[Kz s b,Kz t (by omega),a,NE _ _ _ (by rw[BC,BC,a]),PT _ _ (by rw[BC,BC,a])];constructor
 ·intro h;exact toList_inj (by rw[ByteArray.toList_eq,ByteArray.toList_eq];exact h)
 ·rintro rfl;rfl
theorem NF{w:Zh}{b:Nat}{s:Zi}(h:Aa w b (Am s)):∀j x,(kI s)[j]?=some x->w.cell? ((⟨b,0,none⟩:Addr).add j)=some (.int .u8 x):=by intro j x a;rw[Go.WideShapes.add_plain,Nat.zero_add];have c:j<8:=(Zw a).1;refine(h j (.int .u8 x) ?_).1;unfold Am CO;unfold kI at a;rcases(show j=0∨j=1∨j=2∨j=3∨j=4∨j=5∨j=6∨j=7 by omega)with rfl|rfl|rfl|rfl|rfl|rfl|rfl|rfl<;>(simp at a;subst a;rfl)
theorem OS(w:Zh)(a b:Nat)(s t:Zi)(f:Aa w a (Am s))(g:Aa w b (Am t)):
 (callFunc 247 #[Za a 8 8,Za b 8 8]).run prog w=.ok (.value (Zg (EZ s t))) w:=by
 rw[run_callFunc_extern (fn:=f247) (e:=Extern.BytealgCompare.compare) func247 (by kernel_rfl) (by kernel_rfl) (by kernel_rfl) (by kernel_rfl)];have c:=Lib.run_loadBytesX (P:=prog) w (kI s) ⟨a,0,none⟩ .empty (NF f);have d:=Lib.run_loadBytesX (P:=prog) w (kI t) ⟨b,0,none⟩ .empty (NF g);have h:∀l:List UInt8,(⟨ByteArray.empty.data++l.toArray⟩:Zi)=⟨l.toArray⟩:=fun l=>by apply ByteArray.ext;show(#[]:Array UInt8)++l.toArray=l.toArray;simp
 rw[h]at c d;change (Sem.run prog (do pure (goInt (Extern.BytealgCompare.cmp (←Extern.Bytes.bytesOf (Za a 8 8)) (←Extern.Bytes.bytesOf (Za b 8 8))))) w).andThen _=_;simp only[Extern.Bytes.bytesOf,Sem.run_bind,Sem.run_pure];rw[show(8:Nat)=(kI s).length from rfl,c];rw[Result.andThen_ok,show(kI s).length=(kI t).length from rfl,d];simp only[Result.andThen];rw[Lib.cmp_eq];rfl
theorem Kg(w:Zh)(a b:Nat)(s t:Zi)(c:Aa w a (Am s))(d:Aa w b (Am t)):
 Calls prog 235 #[Za a 8 8,Za b 8 8] w fun e f=>e=.returned (Zg (EZ s t))/\f=w:=by
 have g:=OS w a b s t c d;clear c d;go_enter func235,ntmps235;go_wp2;go_ret;exact⟨rfl,rfl⟩
theorem KB(s t:Zi)(w:Zh):
 Calls prog 234 #[Cm s,Cm t] w fun e h=>e=.returned (Zg (EZ s t))/\Zz w h:=by
 obtain⟨W,a⟩:∃W,W=(w.alloc (.cells (Yw (kB s)) 190)).alloc (.cells (Yw (kB t)) 190):=⟨_,rfl⟩;have g:=(AW a).1;have d:Aa W w.heap.size (Am s):=by rw[a];exact Aa.below (v:=.int .u8 (kB s 0)) (Aa.new w (Am s) 190) (Zy)
 have f:Aa W (w.heap.size+1) (Am t):=by have:=Aa.new (w.alloc (.cells (Yw (kB s)) 190)) (Am t) 190;rw[World.size_alloc]at this;rw[a];exact this
 have b:=Yx (Zb d f);have c:=Yx a;clear a d f;unfold Cm CO;go_enter func234,ntmps234;go_upto_region 1 with fail;rw[←c.o];clear c;go_region_with (go_at_call 235;refine(Kg W.drew w.heap.size (w.heap.size+1) s t b.o.1 b.o.2).mono ?_;rintro e i ⟨rfl,rfl⟩)
 all_goals
  go_wp2;go_ret;exact⟨rfl,g.drew⟩
structure Fi (ss:Zl) (s:Zi) (i:Nat):Prop where
 le:i<=ss.length
 lo:∀j x,j<i->ss[j]?=some x->less x s=true
 hi:∀j x,i<=j->ss[j]?=some x->less x s=false
theorem Wb{w:Zh}{base g c:Nat}{a:Zl}(e:w.ownsRow base 190 8 (Za g a.length c) a.length (AA a)){k:Nat}{s:Zi}(b:a[k]?=some s):∀j,j<8->w.cell? (Ze g (k *8+j))=some (.int .u8 (kB s j)):=fun j d=>by have:=(Zw b).1;exact(e.cellAt _ (by omega)).trans (ED b d)
theorem XH{w:Zh}{base g b:Nat}{a:Zl}(c:w.ownsRow base 190 8 (Za g a.length b) a.length (AA a)){k:Nat}{s:Zi}(d:a[k]?=some s):
 w.cell? (Ze g (k *8))=some (.int .u8 (kB s 0))/\w.cell? (Ze g (k *8+1))=some (.int .u8 (kB s 1))/\w.cell? (Ze g (k *8+2))=some (.int .u8 (kB s 2))/\w.cell? (Ze g (k *8+3))=some (.int .u8 (kB s 3))/\w.cell? (Ze g (k *8+4))=some (.int .u8 (kB s 4))/\w.cell? (Ze g (k *8+5))=some (.int .u8 (kB s 5))/\w.cell? (Ze g (k *8+6))=some (.int .u8 (kB s 6))/\w.cell? (Ze g (k *8+7))=some (.int .u8 (kB s 7)):=
 have h:=Wb c d
 ⟨by simpa using h 0 (by decide),h 1 (by decide),h 2 (by decide),h 3 (by decide),h 4 (by decide),h 5 (by decide),h 6 (by decide),h 7 (by decide)⟩
theorem GM{w:Zh}{g:Nat}{s:Zi}(h:Aa w g (Am s)):
 w.cell? (Ze g 0)=some (.int .u8 (kB s 0))/\w.cell? (Ze g 1)=some (.int .u8 (kB s 1))/\w.cell? (Ze g 2)=some (.int .u8 (kB s 2))/\w.cell? (Ze g 3)=some (.int .u8 (kB s 3))/\w.cell? (Ze g 4)=some (.int .u8 (kB s 4))/\w.cell? (Ze g 5)=some (.int .u8 (kB s 5))/\w.cell? (Ze g 6)=some (.int .u8 (kB s 6))/\w.cell? (Ze g 7)=some (.int .u8 (kB s 7)):=
 ⟨(h 0 _ rfl).1,(h 1 _ rfl).1,(h 2 _ rfl).1,(h 3 _ rfl).1,(h 4 _ rfl).1,(h 5 _ rfl).1,(h 6 _ rfl).1,(h 7 _ rfl).1⟩
theorem KC(g zC:Nat)(d:Zl)(s:Zi)(w:Zh)(base:Nat)(ho:w.ownsRow base 190 8 (.slice (some ⟨g,0,none⟩) d.length zC) d.length (AA d))(hl:d.length<=600)(zR:s.size<=8)(zI:∀x∈d,x.size=s.size)(l:d.Pairwise (fun a b=>less a b=true)):
 Calls prog 233 #[.slice (some ⟨g,0,none⟩) d.length zC,Cm s,.func (.func 234) #[] #[]] w fun e w'=>∃i:Nat,e=.returned (.tuple #[Zg i,.bool (decide (d[i]?=some s))])/\Fi d s i/\Zz w w':=by
 unfold Cm CO;have zO:=(Ac ho rfl).2;obtain⟨W,hW⟩:∃W,W=w.alloc (.cells (Yw (kB s)) 190):=⟨_,rfl⟩;have M:=(AG hW).1;have cb:Aa W w.heap.size (Am s):=by rw[hW];exact Aa.new w (Am s) 190
 have zH:=Ae ho M;have HW:Hid _:=hW;have HO:Hid _:=zH;have HC:Hid _:=cb;have zS:=Aa.lt (v:=.int .u8 (kB s 0)) cb;clear hW zH cb ho;go_enter func233,ntmps233;go_upto_region 1 with fail;rw[←HW.o];clear HW;have zN:=enters_of func234 (by kernel_rfl) rfl;go_wp2
 go_loopw [9,10] (fun i j wr=>∃lo f:Nat,i=Zg lo/\j=Zg f/\lo<=f/\f<=d.length/\Hid ((∀j x,j<lo->d[j]?=some x->less x s=true)/\(∀j x,f<=j->d[j]?=some x->less x s=false))/\Zz W wr) (fun i j _=>(intOf j).toNat -(intOf i).toNat)
 case atStart=>exact⟨0,d.length,rfl,rfl,Nat.zero_le _,Zx,⟨fun j x h=>by omega,fun j x h hx=>by have:=(Zw hx).1;omega⟩,Below.refl _ _⟩
 case round=>
  obtain⟨lo,f,rfl,rfl,zP,zF,HI,c⟩:=hrel;have p:=c.size;by_cases hlt:lo<f
  ·have N:(lo+f)/2<d.length:=by omega
   have n:Hid _:=Zv N;have zM:=zI _ (List.getElem_mem N);generalize d[(lo+f)/2]=x at *
   obtain⟨r0,O,P,Q,R,S,T,U⟩:=XH (Ae HO.o c) n.o;obtain⟨V,X,Y,Z,t4,t5,t6,t7⟩:=GM (Aa.below (v:=.int .u8 (kB s 0)) HC.o c);have q:=AB.cell r0 (show g<wr.heap.size by omega);have r:=AB.cell O (show g<wr.heap.size by omega);have u:=AB.cell P (show g<wr.heap.size by omega);have z:=AB.cell Q (show g<wr.heap.size by omega);have A:=AB.cell R (show g<wr.heap.size by omega)
   have B:=AB.cell S (show g<wr.heap.size by omega);have C:=AB.cell T (show g<wr.heap.size by omega);have D:=AB.cell U (show g<wr.heap.size by omega);have E:=AB.cell V (show w.heap.size<wr.heap.size by omega);have F:=AB.cell X (show w.heap.size<wr.heap.size by omega);have G:=AB.cell Y (show w.heap.size<wr.heap.size by omega);have H:=AB.cell Z (show w.heap.size<wr.heap.size by omega)
   have I:=AB.cell t4 (show w.heap.size<wr.heap.size by omega);have J:=AB.cell t5 (show w.heap.size<wr.heap.size by omega);have K:=AB.cell t6 (show w.heap.size<wr.heap.size by omega);have L:=AB.cell t7 (show w.heap.size<wr.heap.size by omega);have zG:=AB.ne wr
   have k:Hid (∀m:AB wr,Calls prog 234 #[.agg (Yw (kB x)),.agg (Yw (kB s))] m.w fun e w'=>e=.returned (Zg (EZ x s))/\Below m.w.heap.size m.w w'):=fun m=>KB x s m.w;clear r0 O P Q R S T U V X Y Z t4 t5 t6 t7;have zA:Hid _:=Ul (s:=x) (t:=s) (by omega) (by omega);by_cases hc:EZ x s<0
   ·have hd:decide (EZ x s<0)=true:=by simpa using hc
    go_wp2;refine AI (by kernel_rfl) (by kernel_rfl) ?_
    repeat (go_big_quiet_step (exact AB.calls (k.o _)))
    refine wpQuiet_nil ?_;intro m;clear q r u z A B C D E F G H I J K L k;go_wp2;refine⟨⟨(lo+f)/2+1,f,by go_num,rfl,by omega,zF,⟨?_,HI.o.2⟩,c.trans (m.h.mono p)⟩,by simp[intOf];omega⟩;intro j y hj o;rcases Nat.lt_or_ge j ((lo+f)/2)with h|h
    ·have:=List.pairwise_iff_getElem.1 l j ((lo+f)/2) (by omega) N h;obtain⟨_,rfl⟩:=Zw o;obtain⟨_,e⟩:=Zw n.o;rw[e]at this;exact Cl this (zA.o.1 hc)
    ·obtain rfl:j=(lo+f)/2:=by omega
     rw[n.o]at o;cases o;exact zA.o.1 hc
   ·have hd:decide (EZ x s<0)=false:=by simpa using hc
    have zJ:Hid _:=hc;clear hc;go_wp2;refine AI (by kernel_rfl) (by kernel_rfl) ?_
    repeat (go_big_quiet_step (exact AB.calls (k.o _)))
    refine wpQuiet_nil ?_;intro m;clear q r u z A B C D E F G H I J K L k;go_wp2;refine⟨⟨lo,(lo+f)/2,rfl,by go_num,by omega,by omega,⟨HI.o.1,?_⟩,c.trans (m.h.mono p)⟩,by simp[intOf];omega⟩;have zB:less x s=false:=by
     cases h:less x s with
     |false=>rfl
     |true=>exact absurd (zA.o.2 h) zJ.o
    intro j y hj o;rcases Nat.lt_or_ge ((lo+f)/2) j with h|h
    ·have zK:=(Zw o).1;have:=List.pairwise_iff_getElem.1 l ((lo+f)/2) j N zK h;obtain⟨_,rfl⟩:=Zw o;obtain⟨_,e⟩:=Zw n.o;rw[e]at this;cases h':less d[j] s with
     |false=>rfl
     |true=>rw[Cl this h']at zB;cases zB
    ·obtain rfl:j=(lo+f)/2:=by omega
     rw[n.o]at o;cases o;exact zB
  ·obtain rfl:lo=f:=by omega
   have HP:Hid (Fi d s lo):=⟨zF,HI.o.1,HI.o.2⟩;by_cases hn:lo<d.length
   ·have n:Hid _:=Zv hn;have zM:=zI _ (List.getElem_mem hn);generalize d[lo]=x at *
    obtain⟨r0,O,P,Q,R,S,T,U⟩:=XH (Ae HO.o c) n.o;obtain⟨V,X,Y,Z,t4,t5,t6,t7⟩:=GM (Aa.below (v:=.int .u8 (kB s 0)) HC.o c);have q:=AB.cell r0 (show g<wr.heap.size by omega);have r:=AB.cell O (show g<wr.heap.size by omega);have u:=AB.cell P (show g<wr.heap.size by omega);have z:=AB.cell Q (show g<wr.heap.size by omega);have A:=AB.cell R (show g<wr.heap.size by omega)
    have B:=AB.cell S (show g<wr.heap.size by omega);have C:=AB.cell T (show g<wr.heap.size by omega);have D:=AB.cell U (show g<wr.heap.size by omega);have E:=AB.cell V (show w.heap.size<wr.heap.size by omega);have F:=AB.cell X (show w.heap.size<wr.heap.size by omega);have G:=AB.cell Y (show w.heap.size<wr.heap.size by omega);have H:=AB.cell Z (show w.heap.size<wr.heap.size by omega)
    have I:=AB.cell t4 (show w.heap.size<wr.heap.size by omega);have J:=AB.cell t5 (show w.heap.size<wr.heap.size by omega);have K:=AB.cell t6 (show w.heap.size<wr.heap.size by omega);have L:=AB.cell t7 (show w.heap.size<wr.heap.size by omega);have zG:=AB.ne wr
    have k:Hid (∀m:AB wr,Calls prog 234 #[.agg (Yw (kB x)),.agg (Yw (kB s))] m.w fun e w'=>e=.returned (Zg (EZ x s))/\Below m.w.heap.size m.w w'):=fun m=>KB x s m.w;clear r0 O P Q R S T U V X Y Z t4 t5 t6 t7;have zE:Hid _:=Sn (s:=x) (t:=s) (by omega) (by omega);by_cases hc:EZ x s=0
    ·have hd:(EZ x s==0)=true:=by simpa using hc
     go_wp2;refine AI (by kernel_rfl) (by kernel_rfl) ?_
     repeat (go_big_quiet_step (exact AB.calls (k.o _)))
     refine wpQuiet_nil ?_;intro m;clear q r u z A B C D E F G H I J K L k;go_wp2
     go_ret2
     refine⟨lo,?_,HP.o,M.trans ((c.trans (m.h.mono p)).mono M.size)⟩;rw[n.o,zE.o.1 hc,decide_eq_true rfl];rfl
    ·have hd:(EZ x s==0)=false:=by simpa using hc
     go_wp2;refine AI (by kernel_rfl) (by kernel_rfl) ?_
     repeat (go_big_quiet_step (exact AB.calls (k.o _)))
     refine wpQuiet_nil ?_;intro m;clear q r u z A B C D E F G H I J K L k;go_wp2
     go_ret2
     refine⟨lo,?_,HP.o,M.trans ((c.trans (m.h.mono p)).mono M.size)⟩;rw[n.o,decide_eq_false (fun e=>hc (zE.o.2 (Option.some.inj e)))];rfl
   ·have zG:=AB.ne wr;go_wp2;refine AI (by kernel_rfl) (by kernel_rfl) ?_
    repeat (go_big_quiet_step (fail))
    refine wpQuiet_nil ?_;intro m;go_wp2
    go_ret2
    refine⟨lo,?_,HP.o,M.trans ((c.trans (m.h.mono p)).mono M.size)⟩;rw[List.getElem?_eq_none (by omega),decide_eq_false (by simp)];rfl
section
open Go.WideElems Go.MapKept Go.ChangeMaps
open Classical in
noncomputable def ers (f:Lit->Option Value) (kl:Lit):Lit->Option Value:=fun x=>if x=kl then none else f x
theorem AV.del{w:Zh}{K t e:TypeId}{b n:Nat}{f:Lit->Option Value}(h:AV w K b n f)(p:Maps.Keyed prog K)(u:prog.underlying t=some (.map K e)){j:Value}{a:Lit}(d:keyOf prog K j=some a)(k:TypeId):
 ∃c,(Builtin.delete_ #[t,K] k #[.map (some b),j]).run prog w=.ok (.tuple #[]) c/\AV c K b n (ers f a)/\w.grownBy c (some b):=by
 obtain⟨D,l,m,o⟩:=h;obtain⟨c,s,r,y,clock,v,g,A,rfl⟩:=l.drop p u d k;refine⟨_,s,⟨_,r,fun x z=> ?_,fun x=> ?_⟩,?_⟩
 ·by_cases hx:x=a
  ·subst hx;rw[Maps.atKey_del_same];simp[ers]
  ·rw[Maps.atKey_del_other hx,m];simp[ers,hx]
 ·by_cases hx:x=a
  ·subst hx;rw[Maps.has_del_same];simp[ers]
  ·rw[Maps.has_del_other hx,o];simp[ers,hx]
 ·refine⟨rfl,rfl,rfl,by simp[setBlock],fun i _ q=> ?_⟩;simp only[setBlock];rw[Array.getElem?_setIfInBounds_ne (fun e=>q (by rw[e]))]
theorem Wc(w:Zh):(zeroValue 190).run prog w=.ok (.agg Ck) w:=by kernel_rfl
theorem MC(w:Zh)(i:TypeId)(b o c:Nat)(g:∀j,j<8->(w.cell? (Ze b (o+j))).isSome=true)(h:∀j,j<8->w.frozen? ⟨b,o+j,none⟩=false):
 (Builtin.clear_ #[155] i #[.slice (some ⟨b,o,none⟩) 1 c]).run prog w=.ok (.tuple #[]) (w.setCells b o Ck.toList):=by
 have e:(Builtin.zeroCells (Value.agg Ck).cells 1).toList=Ck.toList:=by kernel_rfl
 have a:=run_storeCells_cells (P:=prog) b o Ck.toList 0 w (by simpa [Ck]using g) (by simpa [Ck]using h) (by intro v d;simp[Ck]at d;subst d;rfl);simp only[Nat.add_zero]at a;have f:=Wc;unfold Ck at e a f ⊢;simp[Builtin.clear_,run_underlying underlying155,f,e,a]
theorem GN{base g a n size:Nat}{e:TypeId}{b:Zj}:∀(vs:Zj) (o:Nat) (w:Zh),w.ownsRow base e size (Za g n a) n b->n *size<=o->(w.setCells g o vs).ownsRow base e size (Za g n a) n b
 |[],_,_,h,_=>h
 |v::r,o,w,h,ho=>by rw[World.setCells];refine GN r (o+1) _ ?_ (by omega);have:=(h.stored o v).1;rw[List.set_eq_of_length_le (by rw[h.1];exact ho)]at this;exact this
theorem Cb(g:Nat):∀(vs:Zj) (o:Nat) (w:Zh),w.grownBy (w.setCells g o vs) (some g)
 |[],_,w=>⟨rfl,rfl,rfl,Zx,fun _ _ _=>rfl⟩
 |v::r,o,w=>by rw[World.setCells];exact Av (Ay w g o v) (Cb g r (o+1) _)
theorem CY{w a:Zh}{r:Option Nat}(h:w.drew.grownBy a r):w.grownBy a r:=⟨h.os,h.tape,h.output,h.size,h.block⟩
theorem Wd{w:Zh}{base g b:Nat}{a:Zl}(h:w.ownsRow base 190 8 (Za g a.length b) a.length (AA a))(i:Nat)(n:i<=a.length):w.ownsRow base 190 8 (Za g i b) i (AA (a.take i)):=by
 refine⟨by rw[CQ,List.length_take];congr 1;omega,?_⟩;rcases h.2 with⟨e,_⟩|⟨o,d,c,e,l,m,p,f,j,k⟩
 ·cases e
 ·cases e;refine .inr ⟨g,b,c,rfl,l,m,by omega,f,j,?_⟩;rw[FR,←FC Ek a i n,←FR,←k,List.take_take];congr 1;omega
theorem MD(g b i:Nat)(a:Zl)(w:Zh)(base:Nat)(r:w.ownsRow base 190 8 (Za g a.length b) a.length (AA a))(hl:a.length<=600)(Z:i<a.length):
 Calls prog 215 #[Za g a.length b,Zg i,Zg ((i:Int)+1)] w fun e B=>e=.returned (Za g (a.length -1) b)/\B.ownsRow base 190 8 (Za g (a.length -1) b) (a.length -1) (AA (a.eraseIdx i))/\w.grownBy B (some g):=by
 obtain⟨L,o,T,F,U⟩:=info_parts JA;have n:a.length<=b/\b<=maxLen:=by
  rcases r.2 with⟨e,_⟩|⟨H,m,C,e,K,y,v,x,I,J⟩
  ·cases e
  ·cases e;exact⟨v,x⟩
 obtain⟨M,D⟩:=n;unfold maxLen at D;have hcut:=Wd r i (by omega);obtain⟨A,Y,d⟩:∃A,(if b=i+1 then some (⟨g,0,none⟩:Addr)else some ⟨g,(i+1) *8,none⟩)=some A/\∀j u,(AA (a.drop (i+1)))[j]?=some u->w.drew.cell? (A.add j)=some u:=by
  by_cases h:b=i+1
  ·refine⟨⟨g,0,none⟩,by rw[if_pos h],fun j u k=> ?_⟩;rw[List.drop_of_length_le (by omega)]at k;simp[AA]at k
  ·refine⟨⟨g,(i+1) *8,none⟩,by rw[if_neg h],fun j u k=> ?_⟩;rw[Go.WideShapes.add_plain];rw[FR,←EY Ek a (i+1) (by omega),←FR,List.getElem?_drop]at k;have E:=(Zw k).1;rw[CQ]at E;exact(r.cellAt _ (by omega)).trans k
 obtain⟨s,z,c,f⟩:=run_append_fits (P:=prog) w.drew base 155 155 190 L 8 underlying155 o F g i b (AA (a.take i)) hcut A (a.length -(i+1)) (b -(i+1)) (AA (a.drop (i+1))) (by rw[CQ,List.length_drop]) d (Dh _) (by omega);rw[←Gh,show i+(a.length -(i+1))=a.length -1 by omega]at c;rw[show i+(a.length -(i+1))=a.length -1 by omega]at z;have p:=(List.eraseIdx_eq_take_drop_succ a i).symm;rw[p]at c
 have t:=Yx (Zn c f);clear d c hcut p;go_enter func215,ntmps215;have N:¬((i:Int)==(i:Int)+1)=true:=by simp;omega
 have O:i<=b:=by omega
 have Q:(0:Int)<=(i:Int)+1:=by omega
 have R:(i:Int)+1<=(a.length:Int):=by omega
 have S:((i:Int)+1).toNat=i+1:=by omega
 go_upto_region 5 with fail
 go_region_law (first
  |(refine BD (by rfl) (.tmp 22) (.tmp 25) 155 155 (by rfl) (by rfl) (by simp[Act.eval,Act.put]) z ?_))
 all_goals
  have q:∀j,j<8->(s.cell? (Ze g ((a.length -1) *8+j))).isSome=true/\s.frozen? ⟨g,(a.length -1) *8+j,none⟩=false:=fun j l=>by
   obtain⟨c,f⟩:=t.o;rcases c.2 with⟨e,_⟩|⟨H,m,C,e,K,y,v,x,I,J⟩
   ·cases e
   ·cases e;constructor
    ·simp only[World.cell?,y];rw[Array.getElem?_eq_getElem (by omega)];rfl
    ·exact c.frozenAt _
  have G:=MC s 0 g ((a.length -1) *8) (b -(a.length -1)) (fun j l=>(q j l).1) (fun j l=>(q j l).2);have V:a.length -(a.length -1)=1:=by omega
  have W:¬b=a.length -1:=by omega
  have X:a.length -1<=a.length:=by omega
  go_wp2;go_ret;obtain⟨c,f⟩:=t.o;exact⟨rfl,GN _ _ _ c (Zx),Av (CY f) (Cb g _ _ _)⟩
theorem Sp(base d m g f:Nat)(P L:Value)(S B given ae:Int)(c:List Kd)(s:Zi)(w:Zh)(h:Aa w d [Zg S,.map (some m),Zg B,Zg given,Zg ae,Za g c.length f,P,L])(j:w.ownsRow base 190 8 (Za g c.length f) c.length (AA (c.map (·.sum))))
 (M:c.length<=600) (z:s.size<=8) (A:∀x∈c,x.sum.size=s.size) (k:(c.map (·.sum)).Pairwise (fun a b=>less a b=true)):
 Calls prog 214 #[Yz d,Cm s] w fun e R=>∃i:Nat,e=.returned (.tuple #[Zg i,.bool (decide ((c.map (·.sum))[i]?=some s))])/\Fi (c.map (·.sum)) s i/\Zz w R:=by
 obtain⟨W,n⟩:∃W,W=w.alloc (.cells (Yw (kB s)) 190):=⟨_,rfl⟩;have l:=(AG n).1;have t:Aa W w.heap.size (Am s):=by rw[n];exact Aa.new w (Am s) 190
 have o:W.drew.ownsRow base 190 8 (Za g (c.map (·.sum)).length f) (c.map (·.sum)).length (AA (c.map (·.sum))):=by rw[List.length_map];exact Ae j l.drew
 have p:=Yx (KC g f (c.map (·.sum)) s W.drew base o (by rw[List.length_map];exact M) z (fun x N=>by obtain⟨y,O,rfl⟩:=List.mem_map.1 N;exact A y O) k);rw[List.length_map]at p
 have K:W.drew.cell? (Ze d 5)=some (Za g c.length f)/\(W.drew.cell? (Ze (w.heap.size) 0)=some (.int .u8 (kB s 0))/\W.drew.cell? (Ze (w.heap.size) 1)=some (.int .u8 (kB s 1))/\W.drew.cell? (Ze (w.heap.size) 2)=some (.int .u8 (kB s 2))/\W.drew.cell? (Ze (w.heap.size) 3)=some (.int .u8 (kB s 3))/\W.drew.cell? (Ze (w.heap.size) 4)=some (.int .u8 (kB s 4))/\W.drew.cell? (Ze (w.heap.size) 5)=some (.int .u8 (kB s 5))/\W.drew.cell? (Ze (w.heap.size) 6)=some (.int .u8 (kB s 6))/\W.drew.cell? (Ze (w.heap.size) 7)=some (.int .u8 (kB s 7))):=⟨(Aa.below h l 5 _ rfl).1,GM t⟩
 have r:=Yx n;clear n t o h j;unfold Cm CO at *
 go_enter func214,ntmps214;go_upto_region 1 with fail;rw[←r.o];clear r;obtain⟨Q,C,D,E,F,G,H,I,J⟩:=K;go_region_with (go_at_call 233;refine Calls.mono p.o ?_;rintro e T ⟨i,rfl,v,u⟩)
 all_goals
  have q:=Yx (Zn v (l.trans ((Dv u).mono l.size)));clear v u Q C D E F G H I J p;go_wp2
  go_ret2
  exact⟨i,by first|rfl|simp[Act.put],q.o.1,q.o.2⟩
end
theorem Um(x:Zi)(w:Zh):Calls prog 238 #[.string x] w fun e a=>e=.returned (.bool false)/\Zz w a:=by go_enter func238,ntmps238;go_wp2;go_ret;exact⟨by simp,Below.refl _ _⟩
theorem Un(x:Zi)(w:Zh):Calls prog 253 #[.string x] w fun e a=>e=.returned (.bool false)/\Zz w a:=by go_enter func253,ntmps253;go_wp2;go_ret;exact⟨by simp,Below.refl _ _⟩
theorem Mb(x y:Zi)(w:Zh):Calls prog 252 #[.string x,.string y] w fun e b=>e=.returned (.bool (less x y))/\Zz w b:=by go_enter func252,ntmps252;unfold less;go_wp2_with (go_at_call 238;refine(Um x w).mono ?_;rintro e c ⟨rfl,a⟩);go_wp2;go_ret;exact⟨by simp,a⟩
theorem OT(a:Zk)(J:Nat)(f:Zl)(s:Zi)(w:Zh)(q:Ad w w.heap.size a f)(T:f.length<=1000)(g:f.Pairwise (fun a b=>less a b=true)):
 Calls prog 246 #[.slice a f.length J,.string s] w fun e P=>∃(i:Int) (ok:Bool),e=.returned (.tuple #[Zg i,.bool ok])/\(ok=true↔s∈f)/\Zz w P:=by
 have S:=Yx Mb;go_enter func246,ntmps246;go_wp2
 go_loopw [7,8] (fun i j wr=>∃lo d:Nat,i=Zg lo/\j=Zg d/\lo<=d/\d<=f.length/\Hid ((∀j x,j<lo->f[j]?=some x->less x s=true)/\(∀j x,d<=j->f[j]?=some x->less x s=false))/\Zz w wr) (fun i j _=>(intOf j).toNat -(intOf i).toNat)
 case atStart=>exact⟨0,f.length,rfl,rfl,Nat.zero_le _,Zx,⟨fun j x h=>by omega,fun j x h F=>by have:=(Zw F).1;omega⟩,Below.refl _ _⟩
 case round=>
  obtain⟨lo,d,rfl,rfl,R,K,A,c⟩:=hrel;have D:=c.size;by_cases hlt:lo<d
  ·have t:(lo+d)/2<f.length:=by omega
   have l:=Yx (Zv t);obtain⟨b,L,E,M,k⟩:=(q.below c).at t;subst E;have F:=k _ _ l.o;clear k;generalize f[(lo+d)/2]=x at *
   go_wp2_with fail;refine(Mb x s wr).mono ?_;rintro e Q ⟨rfl,v⟩;have C:=c.trans (v.mono D);by_cases k:less x s=true
   ·rw[k];go_wp2;refine⟨⟨(lo+d)/2+1,d,by go_num,rfl,by omega,K,⟨?_,A.o.2⟩,C⟩,by simp[intOf];omega⟩;intro j y r n;rcases Nat.lt_or_ge j ((lo+d)/2)with h|h
    ·have:=List.pairwise_iff_getElem.1 g j ((lo+d)/2) (by omega) t h;obtain⟨_,rfl⟩:=Zw n;obtain⟨_,e⟩:=Zw l.o;rw[e]at this;exact Cl this k
    ·obtain rfl:j=(lo+d)/2:=by omega
     rw[l.o]at n;cases n;exact k
   ·have u:less x s=false:=by simpa using k
    rw[u];go_wp2;refine⟨⟨lo,(lo+d)/2,rfl,by go_num,by omega,by omega,⟨A.o.1,?_⟩,C⟩,by simp[intOf];omega⟩;intro j y r n;rcases Nat.lt_or_ge ((lo+d)/2) j with h|h
    ·have z:=(Zw n).1;have:=List.pairwise_iff_getElem.1 g ((lo+d)/2) j t z h;obtain⟨_,rfl⟩:=Zw n;obtain⟨_,e⟩:=Zw l.o;rw[e]at this;cases B:less f[j] s with
     |false=>rfl
     |true=>rw[Cl this B]at u;cases u
    ·obtain rfl:j=(lo+d)/2:=by omega
     rw[l.o]at n;cases n;exact u
  ·obtain rfl:lo=d:=by omega
   have p:s∈f->f[lo]?=some s:=fun O=>by
    obtain⟨j,r⟩:=List.getElem?_of_mem O;rcases Nat.lt_or_ge j lo with h|h
    ·have:=A.o.1 j s h r;rw[Ch]at this;cases this
    ·rcases Nat.lt_or_ge lo j with B|B
     ·have z:=(Zw r).1;have H:=List.pairwise_iff_getElem.1 g lo j (by omega) z B;have I:=A.o.2 lo _ (Zx) (Zv (by omega));obtain⟨_,e⟩:=Zw r;rw[e]at H;rw[H]at I;cases I
     ·obtain rfl:j=lo:=by omega
      exact r
   have G:=Yx p;clear p;by_cases hn:lo<f.length
   ·have l:=Yx (Zv hn);obtain⟨b,L,E,M,k⟩:=(q.below c).at hn;subst E;have F:=k _ _ l.o;clear k;generalize f[lo]=x at *
    by_cases he:x=s
    ·subst he;have m:=Zs l.o;have o:=Yx m;clear m;have N:(x.toList==x.toList)=true:=by simp
     go_wp2
     go_ret2
     exact⟨_,true,by first|rfl|simp[Act.put],⟨fun _=>o.o,fun _=>rfl⟩,c⟩
    ·have m:¬s∈f:=by intro h;have:=G.o h;rw[l.o]at this;exact he (Option.some.inj this)
     have o:=Yx m;clear m;have N:=BP he;go_wp2_with (go_at_call 253;refine(Un x wr).mono ?_;rintro e Q ⟨rfl,v⟩);go_wp2
     go_ret2
     exact⟨_,false,by first|rfl|simp[Act.put],⟨(fun h=>by cases h),(fun h=>absurd h o.o)⟩,c.trans (v.mono D)⟩
   ·have m:¬s∈f:=by intro h;have:=(Zw (G.o h)).1;omega
    have o:=Yx m;clear m;go_wp2
    go_ret2
    exact⟨_,false,by first|rfl|simp[Act.put],⟨(fun h=>by cases h),(fun h=>absurd h o.o)⟩,c⟩
section
attribute [local go_sem↓] Go.wp_at_zero Go.wp_at_succ
theorem QF(p:Pd)(s:Zi)(b:Nat)(w:Zh)(d:w.cell? (Ze b 0)=some (.string s)):
 Calls prog 241 #[.agg #[.string p.name,.string p.sum],Yz b] w fun e g=>e=.returned (.bool (decide (p.sum=s)))/\Zz w g:=by
 have j:b<w.heap.size:=World.block_lt_of_cell? w _ d;have i:¬w.heap.size=b:=by omega
 have c:∀o,Zz w (w.alloc o):=fun o=>Zy;by_cases h:p.sum=s
 ·have f:(p.sum.toList==s.toList)=true:=by rw[h];simp
  have a:decide (p.sum=s)=true:=by simpa using h
  clear h;go_enter func241,ntmps241;go_wp2;go_ret;exact⟨by rw[a];rfl,c _⟩
 ·have f:(p.sum.toList==s.toList)=false:=BP h;have a:decide (p.sum=s)=false:=by simpa using h
  clear h;go_enter func241,ntmps241;go_wp2;go_ret;exact⟨by rw[a];rfl,c _⟩
theorem NG(a:Zk)(z b:Nat)(d:List Pd)(s:Zi)(w:Zh)(g:AS w w.heap.size a d)(N:d.length<=1048576)(u:w.cell? (Ze b 0)=some (.string s)):
 Calls prog 250 #[.slice a d.length z,.func (.func 241) #[] #[Yz b]] w fun e G=>∃r:Int,e=.returned (Zg r)/\(0<=r↔∃p∈d,p.sum=s)/\Zz w G:=by
 have B:=World.block_lt_of_cell? w _ u;go_enter func250,ntmps250;go_wp2
 go_loopw [8] (fun i wr=>∃k:Nat,k<=d.length/\i=Zg k/\Hid (∀j x,j<k->d[j]?=some x->¬x.sum=s)/\Zz w wr) (fun i _=>d.length -(intOf i).toNat)
 case atStart=>exact⟨0,Nat.zero_le _,rfl,(fun j x h=>by omega),Below.refl _ _⟩
 case round=>
  obtain⟨k,M,rfl,f,c⟩:=hrel;have D:=c.size;by_cases hlt:k<d.length
  ·obtain⟨I,H,F,L,m⟩:=(g.below c).at hlt;subst F;have o:=Yx (Zv hlt);obtain⟨J,K⟩:=m k _ o.o;have C:=(c.cell (p:=⟨b,0,none⟩) B).trans u;clear m g;generalize d[k]=x at *
   go_wp2_with fail;refine(QF x s b wr C).mono ?_;rintro e O ⟨rfl,A⟩;have l:=c.trans (A.mono D);by_cases h:x.sum=s
   ·have n:decide (x.sum=s)=true:=by simpa using h
    rw[n];go_wp2;go_ret;exact⟨_,rfl,⟨fun _=>⟨x,Zs o.o,h⟩,fun _=>by omega⟩,l⟩
   ·have E:Hid (∀j y,j<k+1->d[j]?=some y->¬y.sum=s):=by
     intro j y v q;rcases Nat.lt_or_ge j k with t|t
     ·exact f.o j y t q
     ·obtain rfl:j=k:=by omega
      rw[o.o]at q;cases q;exact h
    have n:decide (x.sum=s)=false:=by simpa using h
    rw[n];clear h;go_wp2;exact⟨⟨k+1,by omega,by go_num,E,l⟩,by simp[intOf];omega⟩
  ·go_wp2;go_ret;refine⟨_,rfl,⟨fun h=>by omega,fun⟨p,hp,h⟩=> ?_⟩,c⟩;obtain⟨j,v,rfl⟩:=List.getElem_of_mem hp;exact absurd h (f.o j _ (by omega) (Zv v))
theorem KD(a:Zk)(f b:Nat)(c:List Pd)(s:Zi)(w:Zh)(d:AS w w.heap.size a c)(m:c.length<=1048576)(k:w.cell? (Ze b 0)=some (.string s)):
 Calls prog 240 #[.slice a c.length f,.func (.func 241) #[] #[Yz b]] w fun e n=>∃ok,e=.returned (.bool ok)/\(ok=true↔∃p∈c,p.sum=s)/\Zz w n:=by
 go_enter func240,ntmps240;go_wp2_with fail;refine(NG a f b c s w d m k).mono ?_;rintro e o ⟨r,rfl,j,g⟩;have i:=Yx j;clear j;by_cases h:0<=r
 ·have l:decide ((0:Int)<=r)=true:=by simpa using h
  go_wp2;go_ret;exact⟨true,rfl,⟨(fun _=>i.o.1 h),(fun _=>rfl)⟩,g⟩
 ·have l:decide ((0:Int)<=r)=false:=by simpa using h
  go_wp2;go_ret;exact⟨false,rfl,⟨(fun e=>by cases e),(fun e=>absurd (i.o.2 e) (by omega))⟩,g⟩
theorem NH(p:Ld)(s:Zi)(b:Nat)(w:Zh)(d:w.cell? (Ze b 0)=some (.string s)):
 Calls prog 243 #[.agg #[Zg p.num,.string p.sum,Zg p.bf],Yz b] w fun e g=>e=.returned (.bool (decide (p.sum=s)))/\Zz w g:=by
 have j:b<w.heap.size:=World.block_lt_of_cell? w _ d;have i:¬w.heap.size=b:=by omega
 have c:∀o,Zz w (w.alloc o):=fun o=>Zy;by_cases h:p.sum=s
 ·have f:(p.sum.toList==s.toList)=true:=by rw[h];simp
  have a:decide (p.sum=s)=true:=by simpa using h
  clear h;go_enter func243,ntmps243;go_wp2;go_ret;exact⟨by rw[a];rfl,c _⟩
 ·have f:(p.sum.toList==s.toList)=false:=BP h;have a:decide (p.sum=s)=false:=by simpa using h
  clear h;go_enter func243,ntmps243;go_wp2;go_ret;exact⟨by rw[a];rfl,c _⟩
theorem Lu(a:Zk)(z b:Nat)(d:List Ld)(s:Zi)(w:Zh)(g:AU w w.heap.size a d)(N:d.length<=1048576)(u:w.cell? (Ze b 0)=some (.string s)):
 Calls prog 230 #[.slice a d.length z,.func (.func 243) #[] #[Yz b]] w fun e G=>∃r:Int,e=.returned (Zg r)/\(0<=r↔∃p∈d,p.sum=s)/\Zz w G:=by
 have B:=World.block_lt_of_cell? w _ u;go_enter func230,ntmps230;go_wp2
 go_loopw [8] (fun i wr=>∃k:Nat,k<=d.length/\i=Zg k/\Hid (∀j x,j<k->d[j]?=some x->¬x.sum=s)/\Zz w wr) (fun i _=>d.length -(intOf i).toNat)
 case atStart=>exact⟨0,Nat.zero_le _,rfl,(fun j x h=>by omega),Below.refl _ _⟩
 case round=>
  obtain⟨k,M,rfl,f,c⟩:=hrel;have D:=c.size;by_cases hlt:k<d.length
  ·obtain⟨I,H,F,L,m⟩:=(g.below c).at hlt;subst F;have o:=Yx (Zv hlt);obtain⟨J,K,c2⟩:=m k _ o.o;have C:=(c.cell (p:=⟨b,0,none⟩) B).trans u;clear m g;generalize d[k]=x at *
   go_wp2_with fail;refine(NH x s b wr C).mono ?_;rintro e O ⟨rfl,A⟩;have l:=c.trans (A.mono D);by_cases h:x.sum=s
   ·have n:decide (x.sum=s)=true:=by simpa using h
    rw[n];go_wp2;go_ret;exact⟨_,rfl,⟨fun _=>⟨x,Zs o.o,h⟩,fun _=>by omega⟩,l⟩
   ·have E:Hid (∀j y,j<k+1->d[j]?=some y->¬y.sum=s):=by
     intro j y v q;rcases Nat.lt_or_ge j k with t|t
     ·exact f.o j y t q
     ·obtain rfl:j=k:=by omega
      rw[o.o]at q;cases q;exact h
    have n:decide (x.sum=s)=false:=by simpa using h
    rw[n];clear h;go_wp2;exact⟨⟨k+1,by omega,by go_num,E,l⟩,by simp[intOf];omega⟩
  ·go_wp2;go_ret;refine⟨_,rfl,⟨fun h=>by omega,fun⟨p,hp,h⟩=> ?_⟩,c⟩;obtain⟨j,v,rfl⟩:=List.getElem_of_mem hp;exact absurd h (f.o j _ (by omega) (Zv v))
theorem JK(a:Zk)(f b:Nat)(c:List Ld)(s:Zi)(w:Zh)(d:AU w w.heap.size a c)(m:c.length<=1048576)(k:w.cell? (Ze b 0)=some (.string s)):
 Calls prog 242 #[.slice a c.length f,.func (.func 243) #[] #[Yz b]] w fun e n=>∃ok,e=.returned (.bool ok)/\(ok=true↔∃p∈c,p.sum=s)/\Zz w n:=by
 go_enter func242,ntmps242;go_wp2_with fail;refine(Lu a f b c s w d m k).mono ?_;rintro e o ⟨r,rfl,j,g⟩;have i:=Yx j;clear j;by_cases h:0<=r
 ·have l:decide ((0:Int)<=r)=true:=by simpa using h
  go_wp2;go_ret;exact⟨true,rfl,⟨(fun _=>i.o.1 h),(fun _=>rfl)⟩,g⟩
 ·have l:decide ((0:Int)<=r)=false:=by simpa using h
  go_wp2;go_ret;exact⟨false,rfl,⟨(fun e=>by cases e),(fun e=>absurd (i.o.2 e) (by omega))⟩,g⟩
theorem QG(base d m:Nat)(O P L:Value)(K A given ae:Int)(F:List Kd)(j:List Pd)(i:List Ld)(s:Zi)(w:Zh)(b:Dr w base d m O P L K A given ae F j i)(R:j.length<=100)(Q:i.length<=200):
 Calls prog 231 #[Yz d,.string s] w fun e I=>∃ok,e=.returned (.bool ok)/\(ok=true↔(∃p∈j,p.sum=s)∨∃l∈i,l.sum=s)/\Zz w I:=by
 have M:∀(fn:Fn) (first cap:Array Value) (w:Zh),(Instr.makeFunc fn first cap).run prog w=.ok (.func fn first cap) w:=fun _ _ _ _=>rfl;obtain⟨H,D,rfl⟩:=As b.ci;obtain⟨G,z,rfl⟩:=As b.ck;have N:=Yx b;obtain⟨W,h⟩:∃W,W=w.alloc (.cells #[.string s] 9):=⟨_,rfl⟩;have g:=(AG h).1;have f:W.cell? (Ze (w.heap.size) 0)=some (.string s):=by rw[h];simp
 have c:=b.below g;obtain⟨c6,c7⟩:=Aa.c2 c.box 6 7;have n:=Yx c;have t:=Yx h;clear h b c;go_enter func231,ntmps231;go_upto_region 1 with fail;rw[←t.o];clear t;go_wp2_with fail;refine(KD H D _ j s W (AS.own n.o.ci) (by omega) f).mono ?_;rintro e J ⟨B,rfl,v,a⟩;have k:=Yx (Dr.below n.o a);obtain⟨E,_⟩:=k.o.box 7 _ rfl;have u:=(a.cell (p:=⟨w.heap.size,0,none⟩) (World.block_lt_of_cell? W _ f)).trans f
 have q:=Yx v;clear v c6 c7 f;go_wp2_with fail;refine(JK G z _ i s J (AU.own k.o.ck) (by omega) u).mono ?_;rintro e S ⟨C,rfl,x,y⟩;have r:=Yx x;have o:=(g.trans (a.mono g.size)).trans (y.mono (Zm g.size a.size));clear x E u;cases B
 ·go_wp2;go_ret;exact⟨C,rfl,⟨(fun e=> .inr (r.o.1 e)),(fun e=>e.elim (fun e=>by have:=q.o.2 e;cases this) r.o.2)⟩,o⟩
 ·go_wp2;go_ret;exact⟨true,rfl,⟨(fun _=> .inl (q.o.1 trivial)),(fun _=>rfl)⟩,o⟩
end
end Go.Proofs.YtlhhpofjkgmbeaaGreatDoor
