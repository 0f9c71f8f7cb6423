import Derived.Test.YtcfjcdpkpiidkaaGreatX03
import Derived.Test.YtcfjcdpkpiidkaaGreatX04
import Derived.Lib.BytesEntry
import Derived.Sort.Walk0
set_option maxRecDepth 100000
set_option maxHeartbeats 16000000
namespace Go.Proofs.YtcfjcdpkpiidkaaGreat
open ChangeShapes WideShapes ChangeAt RowKit _root_.Go.Proofs.Tryz
variable{B a b size n c g cap k:Nat}{w:Zh}{e:TypeId}{v j:Value}{d:Zj}{T P L r:Option Nat}{R:List Nat}{s t:Zi}
def kC(x:Kd×Value):Zj:=[.string x.1.sum,Zg x.1.born,.string x.1.F,x.2]
theorem Cb(x:Kd×Value):(kC x).length=4:=rfl
structure Bb (w:Zh) (base:Nat) (T P L:Value) (rs:Zj) (ks:List Kd) (ps:List Pd) (ls:List Ld):Prop where
 len:rs.length=ks.length
 aj:w.ownsRow base 65 4 T ks.length (Ag kC (ks.zip rs))
 B:∀(i:Nat) (k:Kd) (r:Value),ks[i]?=some k->rs[i]?=some r->w.ownsRow base 9 1 r k.B.length (k.B.map Value.string)
 pins:w.ownsRow base 48 2 P ps.length (Ag pC ps)
 aq:w.ownsRow base 50 3 L ls.length (Ag lC ls)
 nd:((T::P::L::rs).filterMap Value.ownBlock).Nodup
theorem CG{a:Zh}(h:Below B w.drew a):Below B w a:=⟨h.os,h.tape,h.output,h.size,h.block⟩
theorem As(h:w.ownsRow b e size v n d):∃a c,v=.slice a n c:=by
 rcases h.2 with⟨rfl,rfl⟩|⟨g,cap,f,rfl,_⟩
 .exact⟨_,_,rfl⟩
 .exact⟨_,_,rfl⟩
theorem BW{c:Zj}(h:w.ownsRow a e size v n c)(d:∀g,v.ownBlock=some g->g≠b)(j:Nat)(u:Value):(w.setCell (Zd b j) u).ownsRow a e size v n c:=
 World.ownsRow.kept h (AY w b j u) (.inr (fun e=>d b e rfl))
theorem d8{d:Nat}{a i b c e f g:Value}(h:Aa w d [a,i,b,c,e,j,f,g]):w.cell? (Zd d 0)=some a/\w.cell? (Zd d 2)=some b/\w.cell? (Zd d 3)=some c/\w.cell? (Zd d 4)=some e/\w.cell? (Zd d 6)=some f/\w.cell? (Zd d 7)=some g:=
 ⟨(h 0 _ rfl).1,(h 2 _ rfl).1,(h 3 _ rfl).1,(h 4 _ rfl).1,(h 6 _ rfl).1,(h 7 _ rfl).1⟩
def BS(T P L:Value)(rs:Zj):List Nat:=T.ownBlock.toList++(P.ownBlock.toList++(L.ownBlock.toList++rs.filterMap Value.ownBlock))
theorem EJ(T P L:Value)(a:Zj):(T::P::L::a).filterMap Value.ownBlock=BS T P L a:=by unfold BS;cases hT:T.ownBlock<;>cases hP:P.ownBlock<;>cases hL:L.ownBlock<;>simp[hT,hP,hL]
theorem UT{a:Option Nat}(h:(c::(T.toList++(P.toList++(L.toList++R)))).Nodup)(e:∀b∈c::(T.toList++(P.toList++(L.toList++R))),b<n)(i:∀g,r=some g->n<=g)(d:a=T\/∃t,a=some t/\n<=t/\∀g,r=some g->g≠t):(c::(a.toList++(P.toList++(L.toList++(R++r.toList))))).Nodup:=by
 rcases d with rfl|⟨t,rfl,j,f⟩
 .cases a<;>cases P<;>cases L<;>cases r<;>simp_all [List.nodup_append]<;>grind
 .cases T<;>cases P<;>cases L<;>cases r<;>simp_all [List.nodup_append]<;>grind
theorem Mc(h:(a::(T.toList++(P.toList++(L.toList++R)))).Nodup):
 (∀g,T=some g->g≠a)/\(∀g,P=some g->g≠a/\T≠some g)/\(∀g,L=some g->g≠a/\T≠some g)/\(∀g∈R,g≠a/\T≠some g):=by
 cases T<;>cases P<;>cases L<;>simp_all<;>grind
theorem Aw{w':Zh}{b:Zj}(h:w.ownsRow a e size v n b)(j:∀g,v.ownBlock=some g->w'.heap[g]?=w.heap[g]?):w'.ownsRow a e size v n b:=by
 refine⟨h.1,?_⟩;rcases h.2 with i|⟨g,cap,c,rfl,d,f,rest⟩
 .exact .inl i
 .exact .inr ⟨g,cap,c,rfl,d,(j g rfl).trans f,rest⟩
theorem CX{c:List Kd}(b:(c.map (·.sum)).Nodup){u v:Kd}(d:u∈c)(e:v∈c)(h:u.sum=v.sum):u=v:=by
 induction c with
 |nil=>cases d
 |cons x xs ih=>
  simp only[List.map_cons,List.nodup_cons,List.mem_map,not_exists,not_and]at b;rcases List.mem_cons.1 d with a|a<;>rcases List.mem_cons.1 e with hv'|hv'
  .rw[a,hv']
  .exact absurd (a▸h.symm) (b.1 v hv')
  .exact absurd (hv'▸h) (b.1 u a)
  .exact ih b.2 a hv'
def z7:Zj:=[Ze,Ze,Ze,Ze,Zb,Zb,Zb]
theorem Gj(h:Aa w b z7):(w.cell? (Zd b 0)=some Ze/\w.frozen? ⟨b,0,none⟩=false)/\(w.cell? (Zd b 1)=some Ze/\w.frozen? ⟨b,1,none⟩=false)/\(w.cell? (Zd b 2)=some Ze/\w.frozen? ⟨b,2,none⟩=false)/\(w.cell? (Zd b 3)=some Ze/\w.frozen? ⟨b,3,none⟩=false)/\(w.cell? (Zd b 4)=some Zb/\w.frozen? ⟨b,4,none⟩=false)/\(w.cell? (Zd b 5)=some Zb/\w.frozen? ⟨b,5,none⟩=false)/\(w.cell? (Zd b 6)=some Zb/\w.frozen? ⟨b,6,none⟩=false):=
 ⟨h 0 _ rfl,h 1 _ rfl,h 2 _ rfl,h 3 _ rfl,h 4 _ rfl,h 5 _ rfl,h 6 _ rfl⟩
theorem VP(h:Aa w b z7)(a c d e f g i:Value):Aa (((((((w.setCell (Zd b 0) a).setCell (Zd b 1) c).setCell (Zd b 2) d).setCell (Zd b 3) e).setCell (Zd b 4) f).setCell (Zd b 5) g).setCell (Zd b 6) i) b [a,c,d,e,f,g,i]:=
 (((((((h.set 0 a).set 1 c).set 2 d).set 3 e).set 4 f).set 5 g).set 6 i)
theorem Gk(h:w.ownsRow c e size v n d)(a:∀g,v.ownBlock=some g->g≠b)(f i j k l m o:Value):(((((((w.setCell (Zd b 0) f).setCell (Zd b 1) i).setCell (Zd b 2) j).setCell (Zd b 3) k).setCell (Zd b 4) l).setCell (Zd b 5) m).setCell (Zd b 6) o).ownsRow c e size v n d:=
 BW (BW (BW (BW (BW (BW (BW h a 0 _) a 1 _) a 2 _) a 3 _) a 4 _) a 5 _) a 6 _
theorem ES{a:Zh}(h:Below B a w)(c:B<=b)(d e f g i j k:Value):Below B a (((((((w.setCell (Zd b 0) d).setCell (Zd b 1) e).setCell (Zd b 2) f).setCell (Zd b 3) g).setCell (Zd b 4) i).setCell (Zd b 5) j).setCell (Zd b 6) k):=
 ((((((h.setCell c d).setCell c e).setCell c f).setCell c g).setCell c i).setCell c j).setCell c k
def RI(b:Nat)(P L:Value):Prop:=(∀g,P.ownBlock=some g->g≠b)/\(∀g,L.ownBlock=some g->g≠b)/\(∀g,P.ownBlock=some g->L.ownBlock=some g->False)
theorem RJ(zT d m:Nat)(O P L:Value)(wd now t q:Int)(c:List Kd)(A:List Pd)(z:List Ld)(w:Zh)(hd:Dr w zT d m O P L wd now t q c A z)(xR:(c.map (·.sum)).Nodup)(xW:∀k∈c,(k.sum.size:Int)=wd)(hk:c.length<=600)(hp:A.length<=100)(hl:z.length<=200)(yM:∀k∈c,k.B.length<=30):
 Calls prog 23 #[Yy d] w fun e M=>∃T P' L' rs,e=.returned (.agg #[Zg wd,Zg now,Zg t,Zg q,T,P',L'])/\Bb M w.heap.size T P' L' rs c A z/\Zz w M:=by
 obtain⟨pa,yA,rfl⟩:=As hd.cv;obtain⟨la,zZ,rfl⟩:=As hd.dz;obtain⟨oa,vD,rfl⟩:=As hd.ord;have HD:=Yw hd;have vM:=hd.box.lt;obtain⟨W,hW⟩:=Af (w.alloc (.cells Yi 27));have yF:=(AL hW).1;have yU:=(AL hW).2.1;have ZW:Aa W w.heap.size z7:=(AL hW).2.2;have zU:=Yw (hd.below yF)
 have zG:Hid (∀X,Zz W X->Calls prog 40 #[.slice pa A.length yA] X fun e M=>∃a' c',e=.returned (.slice a' A.length c')/\M.ownsRow X.heap.size 48 2 (.slice a' A.length c') A.length (Ag pC A)/\Zz X M):=
  fun X K=>IH pa yA A X (AM.own (Al zU.o.cv K)) Yv
 have Y:Hid (∀X,Zz W X->Calls prog 41 #[.slice la z.length zZ] X fun e M=>∃a' c',e=.returned (.slice a' z.length c')/\M.ownsRow X.heap.size 50 3 (.slice a' z.length c') z.length (Ag lC z)/\Zz X M):=
  fun X K=>Hc la zZ z X (AN.own (Al zU.o.dz K)) Yv
 have HS:Hid (∀X,Zz W X->X.cell? (Zd d 0)=some (Zg wd)/\X.cell? (Zd d 2)=some (Zg now)/\X.cell? (Zd d 3)=some (Zg t)/\X.cell? (Zd d 4)=some (Zg q)/\X.cell? (Zd d 6)=some (.slice pa A.length yA)/\X.cell? (Zd d 7)=some (.slice la z.length zZ)):=
  fun X K=>d8 (zU.o.box.below K)
 have D0:Below W.heap.size W W.drew:=Ad.drew;have D1:∀o,Zz W (W.alloc o).drew:=fun o=>(Zy).drew;have HW:=Yw hW;have yO:=Yw ZW;have zE:=Yw yU;clear hd hW ZW yU;go_enter func23,ntmps23;go_upto_region 1 with fail;rw[<-HW.o];clear HW
 go_cut [3] (fun v wx=>∃(D:Nat) (H C:Zk) (I c2:Nat),v=Yy D/\Hid (Aa wx D (Yh wd now t q none 0 0 H A.length I C z.length c2)/\wx.ownsRow W.heap.size 48 2 (.slice H A.length I) A.length (Ag pC A)/\wx.ownsRow W.heap.size 50 3 (.slice C z.length c2) z.length (Ag lC z)/\RI D (.slice H A.length I) (.slice C z.length c2)/\W.heap.size<=D/\Zz W wx))
 case first=>
  go_region_held3 (fun M=>M.cell? (Zd d 0)=some (Zg wd)/\M.cell? (Zd d 2)=some (Zg now)/\M.cell? (Zd d 3)=some (Zg t)/\M.cell? (Zd d 4)=some (Zg q)/\M.cell? (Zd d 6)=some (.slice pa A.length yA)/\M.cell? (Zd d 7)=some (.slice la z.length zZ))
   (first
     |with_reducible exact HS.o _ D0
     |with_reducible exact HS.o _ (D1 _)
     |with_reducible exact HS.o _ J
     |with_reducible exact HS.o _ V
     |with_reducible exact HS.o _ (J.alloc J.size _)
     |with_reducible exact HS.o _ (V.alloc V.size _)
     |with_reducible exact HS.o _ (ES V zA _ _ _ _ _ _ _))
   (first
     |(go_at_call 40;guard_target=~Calls prog 40 _ (World.drew (World.alloc W _)) _;refine(zG.o (W.alloc (.cells Yi 27)).drew (D1 _)).mono ?_;rintro e E ⟨H,I,rfl,S,zB⟩;have J:Below W.heap.size W E:=(D1 _).trans (zB.mono Yu);have nA:Aa E W.heap.size z7:=(Aa.below (w:=W.alloc (.cells Yi 27)) (Aa.new W _ _) (CG zB)))
     |(go_at_call 40;guard_target=~Calls prog 40 _ (World.drew W) _;refine(zG.o W.drew D0).mono ?_;rintro e E ⟨H,I,rfl,S,zB⟩;have J:Below W.heap.size W E:=D0.trans zB)
     |(go_at_call 41;have yJ:=nA;refine(Y.o E J).mono ?_;rintro e w2 ⟨C,c2,rfl,U,F⟩;have V:Below W.heap.size W w2:=J.trans (F.mono J.size);have n2:Aa w2 W.heap.size z7:=(Aa.below nA F);have zA:W.heap.size<=W.heap.size:=Zx;obtain⟨⟨y0,q0⟩,⟨y1,q1⟩,⟨y2,q2⟩,⟨y3,q3⟩,⟨y4,q4⟩,⟨y5,q5⟩,y6,q6⟩:=Gj n2)
     |(go_at_call 41;guard_target=~Calls prog 41 _ (World.alloc E _) _;refine(Y.o (E.alloc (.cells Yi 27)) (J.alloc J.size _)).mono ?_;rintro e w2 ⟨C,c2,rfl,U,F⟩;have V:Below W.heap.size W w2:=(J.alloc J.size _).trans (F.mono (by have:=J.size;simp;omega));have nB:Aa w2 E.heap.size z7:=(Aa.below (Aa.new E _ _) F);have zA:W.heap.size<=E.heap.size:=J.size;obtain⟨⟨y0,q0⟩,⟨y1,q1⟩,⟨y2,q2⟩,⟨y3,q3⟩,⟨y4,q4⟩,⟨y5,q5⟩,y6,q6⟩:=Gj nB)
     |(go_at_call 41;refine(Y.o E J).mono ?_;rintro e w2 ⟨C,c2,rfl,U,F⟩;have nC:=S;have V:Below W.heap.size W w2:=J.trans (F.mono J.size)))
  all_goals (go_wp2_with fail;go_meet)
  all_goals first
   |(have yJ:=nA
     have zz:=zE.o;have l1:∀g,(Value.slice H A.length I).ownBlock=some g->W.heap.size+1<=g/\g<E.heap.size:=fun g a=>by have:=Ac S a;simp at this;omega
     have l2:∀g,(Value.slice C z.length c2).ownBlock=some g->E.heap.size<=g:=fun g a=>(Ac U a).1;have z1:W.heap.size+1<=E.heap.size:=by have:=zB.size;simp at this;omega
     exact⟨W.heap.size,H,C,I,c2,rfl,VP n2 _ _ _ _ _ _ _,Gk (Al (S.mono Yu) F) (fun g a=>by have:=l1 g a;omega) _ _ _ _ _ _ _,Gk (U.mono Yv) (fun g a=>by have:=l2 g a;omega) _ _ _ _ _ _ _,⟨fun g a=>by have:=l1 g a;omega,fun g a=>by have:=l2 g a;omega,fun g a zP=>by have:=l1 g a;have:=l2 g zP;omega⟩,Zx,ES V (Zx) _ _ _ _ _ _ _⟩)
   |(have yJ:=nB
     have l1:∀g,(Value.slice H A.length I).ownBlock=some g->W.heap.size<=g/\g<E.heap.size:=fun g a=>by have:=Ac S a;simp at this;omega
     have l2:∀g,(Value.slice C z.length c2).ownBlock=some g->E.heap.size+1<=g:=fun g a=>by have:=(Ac U a).1;simp at this;omega
     exact⟨E.heap.size,H,C,I,c2,rfl,VP nB _ _ _ _ _ _ _,Gk (Al (Al (S.mono Yu) (Zy)) F) (fun g a=>by have:=l1 g a;omega) _ _ _ _ _ _ _,Gk (U.mono Yt) (fun g a=>by have:=l2 g a;omega) _ _ _ _ _ _ _,⟨fun g a=>by have:=l1 g a;omega,fun g a=>by have:=l2 g a;omega,fun g a zP=>by have:=l1 g a;have:=l2 g zP;omega⟩,zA,ES V zA _ _ _ _ _ _ _⟩)
   |(have yJ:=nC
     have l1:∀g,(Value.slice H A.length I).ownBlock=some g->W.heap.size<=g/\g<E.heap.size:=fun g a=>by have:=Ac S a;simp at this;omega
     have l2:∀g,(Value.slice C z.length c2).ownBlock=some g->E.heap.size<=g/\g<w2.heap.size:=fun g a=>Ac U a;have z2:=F.size;exact⟨w2.heap.size,H,C,I,c2,rfl,Aa.new w2 _ _,Al (Al (S.mono Yu) F) (Zy),Al (U.mono J.size) (Zy),⟨fun g a=>by have:=l1 g a;omega,fun g a=>by have:=l2 g a;omega,fun g a zP=>by have:=l1 g a;have:=l2 g zP;omega⟩,V.size,V.alloc V.size _⟩)
 case rest=>
  revert wc;intro wN hcut;obtain⟨D,H,C,I,c2,rfl,HC⟩:=hcut;have yY:Hid (Zz w wN):=yF.trans (HC.o.2.2.2.2.2.mono yF.size);have dN:=(zU.o.box.below HC.o.2.2.2.2.2);obtain⟨e5,_⟩:=dN 5 _ rfl;have zN:=HC.o.2.2.2.2.2.size;have vQ:W.heap.size<=D:=HC.o.2.2.2.2.1;have xD:Hid (Aa wN w.heap.size z7):=Aa.below (v:=Ze) (l:=z7.tail) yO.o HC.o.2.2.2.2.2;clear dN zG Y HS D0 D1 yO;go_wp2
  go_loopw [40] (fun i wr=>∃(k:Nat) (T:Value) (rs:Zj),k<=c.length/\i=Zg k/\Hid (Aa wr D [Zg wd,Zg now,Zg t,Zg q,T,.slice H A.length I,.slice C z.length c2]/\Aa wr w.heap.size z7/\wr.ownsRow W.heap.size 65 4 T k (Ag kC ((c.take k).zip rs))/\rs.length=k/\(∀(i:Nat) (x:Kd) (r:Value),(c.take k)[i]?=some x->rs[i]?=some r->wr.ownsRow W.heap.size 9 1 r x.B.length (x.B.map Value.string))/\wr.ownsRow W.heap.size 48 2 (.slice H A.length I) A.length (Ag pC A)/\wr.ownsRow W.heap.size 50 3 (.slice C z.length c2) z.length (Ag lC z)/\(D::BS T (.slice H A.length I) (.slice C z.length c2) rs).Nodup)/\Zz w wr) (fun i _=>c.length -(intOf i).toNat)
  case atStart=>
   refine⟨0,Zb,[],Nat.zero_le _,rfl,⟨HC.o.1,xD.o,⟨rfl,.inl ⟨rfl,rfl⟩⟩,rfl,fun i x r hx=>by simp at hx,HC.o.2.1,HC.o.2.2.1,?_⟩,yY.o⟩;have h3:=HC.o.2.2.2.1;unfold RI at h3;unfold BS;generalize (Value.slice H A.length I).ownBlock=x1 at *
   generalize (Value.slice C z.length c2).ownBlock=x2 at *
   cases x1<;>cases x2<;>simp_all [Value.ownBlock]<;>grind
  case round=>
   obtain⟨k,T,rs,vN,rfl,HI,G⟩:=hrel;by_cases hlt:k<c.length
   .obtain⟨n,f,hn,hM,hH⟩:=HD.o.map;have yI:=G.size;have ho:wr.ownsRow zT 94 8 (.slice oa c.length vD) c.length (Bk (c.map (·.sum))):=Nd HD.o.ord G (fun g a=>(Ac HD.o.ord a).2);obtain⟨og,oc,xL,_,vO⟩:=Bq ho (fun e=>by injection e with _ h2 _;omega);cases xL;have HG:Hid (c[k]?=some c[k]):=Zv hlt;have Q:c[k]∈c:=List.getElem_mem hlt;have xY:=xW _ Q;have vJ:=yM _ Q
    have yS:(c.map (·.sum))[k]?=some c[k].sum:=by simp[hlt]
    have s:∀j,j<8->wr.cell? (Zd og (k *8+j))=some (.int .u8 (kB c[k].sum j)):=fun j hj=>(ho.cellAt _ Yv).trans (EO yS hj);obtain⟨R,rc,yR,xA⟩:∃R rc,f (keyL c[k].sum)=some (CN c[k] R rc)/\Hid (Ab w w.heap.size R c[k].B):=by
     rcases hH _ xY with⟨_,xS⟩|⟨u,R,rc,hu,xX,xN,xU⟩
     .exact absurd ⟨_,Q,rfl⟩ xS
     .obtain rfl:=CX xR hu Q xX;exact⟨R,rc,xN,xU.row⟩
    have yG:∀X,Zz wr X->(Instr.lookup 84 (.map (some m)) (BX c[k].sum) false).run prog X=.ok (CN c[k] R rc) X:=fun X K=>by have:=(hM.ah (G.trans (K.mono yI)) hM.lt).look keyed underlying84 (JW _) (Ct c[k].sum);rw[yR]at this;exact this
    have dr:Aa wr d _:=Aa.below HD.o.box G;have yQ:=s 0 Yv;have xE:=s 1 Yv;have xF:=s 2 Yv;have xG:=s 3 Yv;have xH:=s 4 Yv;have xI:=s 5 Yv;have xJ:=s 6 Yv;have xK:=s 7 Yv;rw[Nat.add_zero]at yQ;have HX:Hid (c.take (k+1)=c.take k++[c[k]]):=Zu hlt;unfold BX Cu CN at yG;clear ho s yS hH yR Q hM;generalize c[k]=x at *
    obtain⟨B,zJ⟩:=Af (wr.alloc (.cells (Yk (kB x.sum)) 94));have b1:=(AL zJ).1;have z1:=(AL zJ).2.1;have K1:=(AL zJ).2.2
    have yB:Hid (∀X,Zz B X->X.cell? (Zd d 1)=some (.map (some m))/\(X.cell? (Zd (wr.heap.size) 0)=some (.int .u8 (kB x.sum 0))/\X.cell? (Zd (wr.heap.size) 1)=some (.int .u8 (kB x.sum 1))/\X.cell? (Zd (wr.heap.size) 2)=some (.int .u8 (kB x.sum 2))/\X.cell? (Zd (wr.heap.size) 3)=some (.int .u8 (kB x.sum 3))/\X.cell? (Zd (wr.heap.size) 4)=some (.int .u8 (kB x.sum 4))/\X.cell? (Zd (wr.heap.size) 5)=some (.int .u8 (kB x.sum 5))/\X.cell? (Zd (wr.heap.size) 6)=some (.int .u8 (kB x.sum 6))/\X.cell? (Zd (wr.heap.size) 7)=some (.int .u8 (kB x.sum 7)))/\(Instr.lookup 84 (.map (some m)) (.agg (Yk (kB x.sum))) false).run prog X=.ok (.agg #[.string x.sum,Zg x.born,.string x.F,.slice R x.B.length rc]) X):=
     fun X K=>⟨((dr.below (b1.trans (K.mono b1.size))) 1 _ rfl).1,VJ (K.block _ Yv) K1,yG X (b1.trans (K.mono b1.size))⟩
    have D0:Below B.heap.size B B.drew:=Ad.drew;have D1:∀o,Zz B (B.alloc o).drew:=fun o=>(Zy).drew;have yN:=Yw zJ;have zH:=Yw z1;have yX:=Yw b1;clear zJ z1 yG K1 b1 dr;go_upto_region 5 with fail;rw[<-yN.o];clear yN yQ xE xF xG xH xI xJ xK
    go_region_held3 (fun X=>X.cell? (Zd d 1)=some (.map (some m))/\(X.cell? (Zd (wr.heap.size) 0)=some (.int .u8 (kB x.sum 0))/\X.cell? (Zd (wr.heap.size) 1)=some (.int .u8 (kB x.sum 1))/\X.cell? (Zd (wr.heap.size) 2)=some (.int .u8 (kB x.sum 2))/\X.cell? (Zd (wr.heap.size) 3)=some (.int .u8 (kB x.sum 3))/\X.cell? (Zd (wr.heap.size) 4)=some (.int .u8 (kB x.sum 4))/\X.cell? (Zd (wr.heap.size) 5)=some (.int .u8 (kB x.sum 5))/\X.cell? (Zd (wr.heap.size) 6)=some (.int .u8 (kB x.sum 6))/\X.cell? (Zd (wr.heap.size) 7)=some (.int .u8 (kB x.sum 7)))/\(Instr.lookup 84 (.map (some m)) (.agg (Yk (kB x.sum))) false).run prog X=.ok (.agg #[.string x.sum,Zg x.born,.string x.F,.slice R x.B.length rc]) X)
     (first|with_reducible exact yB.o _ D0|with_reducible exact yB.o _ (D1 _))
     (fail)
    all_goals
     clear yB D0 D1;obtain⟨W2,zK⟩:=Af ((B.alloc (.cells #[.string x.sum,Zg x.born,.string x.F,.slice R x.B.length rc] 65)).drew);have b2:Below B.heap.size B W2:=by rw[zK];exact(Zy).drew
     have z2:W2.heap.size=B.heap.size+1:=by rw[zK];simp
     have K2:Aa W2 B.heap.size [.string x.sum,Zg x.born,.string x.F,.slice R x.B.length rc]:=by rw[zK];exact Aa.new B _ _
     have z1:=zH.o;have yD:Below wr.heap.size wr W2:=yX.o.trans (b2.mono Yv);have R2:Ab W2 W2.heap.size R x.B:=Ab.mono (Ab.below xA.o (G.trans (yD.mono yI))) Yv;rw[<-zK];obtain⟨k3,_⟩:=K2 3 _ rfl;have yC:=Yw z2;have xT:x.B.length<=1048576:=Yv
     clear zK z1 z2;go_wp2_with fail;refine(Gf R rc x.B W2 R2 xT).mono ?_;rintro e w3 ⟨a3,c3,rfl,yH,zO⟩;clear k3;have z1:=zH.o;have z2:=yC.o;have zV:Below wr.heap.size wr w3:=yD.trans (zO.mono Yv);have z3:=zO.size;obtain⟨i1,i2,i3,i4,i5,i6,i7,i8⟩:=HI.o;have zW:=zE.o;have S3:=Aa.below i1 zV;obtain⟨ta,tc,rfl⟩:=As i3;obtain⟨s4,f4⟩:=S3 4 _ rfl;have xV:D<wr.heap.size:=i1.lt
     have yL:¬D=B.heap.size:=Yv
     have vH:¬B.heap.size=D:=Yv
     obtain⟨k0,k1,k2⟩:=Aa.c3 (Aa.below K2 zO) 0 1 2;obtain⟨k3,g3⟩:=Aa.below K2 zO 3 _ rfl;have xC:=Yw (Al i3 zV);have zI:∀g,(Value.slice ta k tc).ownBlock=some g->W.heap.size<=g/\g<wr.heap.size:=fun g a=>Ac i3 a;have yE:∀g,(Value.slice a3 x.B.length c3).ownBlock=some g->W2.heap.size<=g/\g<w3.heap.size:=fun g a=>Ac yH a;have yZ:=Yw yH;have zS:=Yw zV;have xB:=Yw S3
     have vK:W.heap.size<=w3.heap.size:=Yv
     obtain⟨i0,hi,xZ,vA,vC⟩:=info_parts Gd;have yP:=Yw z3;clear K2 b2 yD R2 i1 i2 i3 i4 i5 i6 i7 i8 zO yH zV S3 z1 z2 z3 zW;go_wp2_with (first
      |(at_builtin;refine wpList_append_own_at _ rfl _ _ 23 rfl W.heap.size 65 i0 _ 4 64 underlying23 hi xZ vA vC rfl Yq _ k (Ag kC ((c.take k).zip rs)) rfl ?d0 ⟨w3.heap.size,0,none⟩ 1 1 (kC (x,.slice a3 x.B.length c3)) rfl rfl ?d2 ?d3 ?d4 ?d5 ?d6 ?_)
      |go_in)
     case d0=>exact Al (BW xC.o (fun g a=>by have:=zI g a;have:=zH.o;omega) 3 _) (Zy)
     case d2=>
      intro j u hu;rw[Go.WideShapes.add_plain,Nat.zero_add];have:=(Aa.new (w3.setCell (Zd (B.heap.size) 3) (.slice a3 x.B.length c3)) (kC (x,.slice a3 x.B.length c3)) 65) j u hu;simpa [kC]using this.1
     case d3=>
      intro u hu;simp[kC]at hu;rcases hu with rfl|rfl|rfl|rfl<;>rfl
     case d4=>unfold maxLen;omega
     case d5=>omega
     case d6=>simp;omega
     intro v4 w4 zF zR xQ zM;obtain⟨g4,c4,rfl,vE,vF⟩:=Bq zF (fun e=>by subst e;rcases zF.2 with⟨_,hn⟩|⟨_,_,_,e,_⟩<;>first|omega|cases e);obtain⟨i1,i2,i3,i4,i5,i6,i7,i8⟩:=HI.o;have nf:=Mc i8;have z1:=zH.o;have z2:=yC.o;have z3:=yP.o;have zW:=zE.o;have K:∀b,b<w3.heap.size->b≠B.heap.size->(Value.slice ta k tc).ownBlock≠some b->w4.heap[b]?=w3.heap[b]?:=fun b Z zB F=>by rw[zR.block b Yt (fun e=>F e.symm),Below.heap_alloc _ _ _ Yt,Below.heap_setCell _ _ _ _ (by simpa using zB)]
     have S4:=Aa.same xB.o (K D Yv yL (fun e=>nf.1 _ e rfl));obtain⟨_,vL⟩:=S4 4 _ rfl;obtain⟨vP,_⟩:=S4 4 _ rfl;have vG:g4≠D:=by
      rcases zM with ha|ha
      .exact nf.1 g4 ha.symm
      .simp[Value.ownBlock]at ha;omega
     have HF:=Yw (Zn S4 (Zn K (Zn zF (Zn zM zR))));clear S4 K zF zM zR i1 i2 i3 i4 i5 i6 i7 i8 nf z1 z2 z3 zW s4 f4 k0 k1 k2 k3 g3 xQ;go_wp2;obtain⟨S4,K,zF,zM,zR⟩:=HF.o;obtain⟨i1,i2,i3,i4,i5,i6,i7,i8⟩:=HI.o;have nf:=Mc i8;have z1:=zH.o;have z2:=yC.o;have z3:=yP.o;have zW:=zE.o
     have hY:∀b,b<w3.heap.size->b≠B.heap.size->b≠D->(Value.slice ta k tc).ownBlock≠some b->(w4.setCell (Zd D 4) (Yz g4 (k+1) c4)).heap[b]?=w3.heap[b]?:=fun b h1 h2 h3 h4=>(Below.heap_setCell _ _ _ _ (by simpa using h3)).trans (K b h1 h2 h4)
     have zX:∀b,b<wr.heap.size->b≠D->(Value.slice ta k tc).ownBlock≠some b->(w4.setCell (Zd D 4) (Yz g4 (k+1) c4)).heap[b]?=wr.heap[b]?:=fun b h1 h3 h4=>(hY b Yv Yv h3 h4).trans (zS.o.block b h1);have yV:∀r∈rs,∀g,r.ownBlock=some g->g<wr.heap.size:=by
      intro r N g a;obtain⟨i,hi⟩:=List.getElem?_of_mem N;have xP:i<k:=by have:=(Zw hi).1;omega
      exact(Ac (i5 i _ r (by rw[List.getElem?_take_of_lt xP];exact Zv Yv) hi) a).2
     refine⟨⟨k+1,Yz g4 (k+1) c4,rs++[.slice a3 x.B.length c3],Yv,Yn,⟨Aa.set S4 4 _,?_,?_,?_,?_,?_,?_,?_⟩,?_⟩,Ys⟩
     .exact Aa.same i2 (zX w.heap.size Yv Yv (fun e=>by have:=(zI _ e).1;omega))
     .rw[HX.o,List.zip_append (by rw[i4,List.length_take];omega),CS];exact BW zF (fun g a=>by simp[Value.ownBlock]at a;omega) 4 _
     .simp[i4]
     .intro i y r hy N;rw[HX.o]at hy;have yK:(c.take k).length=k:=by rw[List.length_take];omega
      rcases Nat.lt_or_ge i k with h|h
      .rw[List.getElem?_append_left Yv]at hy N;refine Aw (i5 i y r hy N) (fun g a=> ?_);have:=nf.2.2.2 g (List.mem_filterMap.2 ⟨r,Zs N,a⟩);exact zX g (yV r (Zs N) g a) this.1 this.2
      .have xO:i=k:=by have:=(Zw N).1;simp at this;omega
       subst xO;rw[List.getElem?_append_right Yv,yK,Nat.sub_self]at hy;rw[List.getElem?_append_right Yv,i4,Nat.sub_self]at N;simp at hy N;subst hy;subst N;refine Aw (World.ownsRow.mono yZ.o Yv) (fun g a=> ?_);have:=yE g a;exact hY g this.2 Yv Yv (fun e=>by have:=(zI g e).2;omega)
     .exact Aw i6 (fun g a=>zX g (Ac i6 a).2 (nf.2.1 g a).1 (nf.2.1 g a).2)
     .exact Aw i7 (fun g a=>zX g (Ac i7 a).2 (nf.2.2.1 g a).1 (nf.2.2.1 g a).2)
     .unfold BS;rw[List.filterMap_append];have xM:List.filterMap Value.ownBlock [.slice a3 x.B.length c3]=(Value.slice a3 x.B.length c3).ownBlock.toList:=by cases h:(Value.slice a3 x.B.length c3).ownBlock<;>simp[h]
      rw[xM];refine UT (n:=wr.heap.size) i8 ?_ (fun g a=>by have:=(yE g a).1;omega) ?_
      .intro b Z;simp only[List.mem_cons,List.mem_append,Option.mem_toList,List.mem_filterMap]at Z;rcases Z with rfl|Z|Z|Z|⟨r,N,Z⟩
       .exact xV
       .exact(zI _ Z).2
       .exact(Ac i6 Z).2
       .exact(Ac i7 Z).2
       .exact yV r N b Z
      .rcases zM with ha|ha
       .exact .inl ha
       .refine .inr ⟨w3.heap.size+1,by simpa using ha,Yv,fun g a=>by have:=(yE g a).2;omega⟩
     .have hq:Below w.heap.size w w3:=G.trans (zS.o.mono yI);exact(((hq.setCell Yt _).alloc Yt _).grown zR Yt (fun g a=>by have:=(zI g a).1;omega)).setCell Yt _
   .obtain rfl:k=c.length:=Yv
    obtain⟨i1,i2,i3,i4,i5,i6,i7,i8⟩:=HI.o;have zW:=zE.o;obtain⟨⟨y0,q0⟩,⟨y1,q1⟩,⟨y2,q2⟩,⟨y3,q3⟩,⟨y4,q4⟩,⟨y5,q5⟩,y6,q6⟩:=Gj i2;obtain⟨ta,tc,rfl⟩:=As i3;obtain⟨x0,x1,x2,x3,x4,x5,x6⟩:=Aa.c7 i1 0 1 2 3 4 5 6;have vI:¬D=w.heap.size:=Yv
    have yW:¬w.heap.size=D:=Yv
    have zC:=Yw (Zn i2 (Zn i3 (Zn i4 (Zn i5 (Zn i6 (Zn i7 i8))))));clear i1 i2 i3 i4 i5 i6 i7 i8 zW;go_wp2;have zW:=zE.o
    have zY:∀{e:TypeId} {size:Nat} {v:Value} {n:Nat} {xs:Zj},wr.ownsRow W.heap.size e size v n xs->(((((((wr.setCell (Zd (w.heap.size) 0) (Zg wd)).setCell (Zd (w.heap.size) 1) (Zg now)).setCell (Zd (w.heap.size) 2) (Zg t)).setCell (Zd (w.heap.size) 3) (Zg q)).setCell (Zd (w.heap.size) 4) (.slice ta c.length tc)).setCell (Zd (w.heap.size) 5) (.slice H A.length I)).setCell (Zd (w.heap.size) 6) (.slice C z.length c2)).ownsRow w.heap.size e size v n xs:=fun h=>World.ownsRow.mono (Gk h (fun g a=>by have:=(Ac h a).1;omega) _ _ _ _ _ _ _) Yv
    have yT:c.take c.length=c:=Zt (Zx);refine bodyPost_ret (v:=.agg (Yg wd now t q ta c.length tc H A.length I C z.length c2)) (by simp[results,results23,go_sem,y0,y1,y2,y3,y4,y5,y6]) rfl ⟨_,_,_,rs,rfl,⟨zC.o.2.2.1,?_,?_,zY zC.o.2.2.2.2.1,zY zC.o.2.2.2.2.2.1,?_⟩,ES G (Zx) _ _ _ _ _ _ _⟩
    .have:=zC.o.2.1;rw[yT]at this;exact zY this
    .intro i y r hy N;exact zY (zC.o.2.2.2.1 i y r (by rw[yT];exact hy) N)
    .rw[EJ];exact(List.nodup_cons.1 zC.o.2.2.2.2.2.2).2
def kI(s:Zi):List Int:=[kB s 0,kB s 1,kB s 2,kB s 3,kB s 4,kB s 5,kB s 6,kB s 7]
def EA(s t:Zi):Int:=Lib.compareBytes (Lib.bytesOf (kI s)) (Lib.bytesOf (kI t))
theorem UU(x:List UInt8):Lib.compareBytes x x=0:=by
 induction x with
 |nil=>rfl
 |cons a x ih=>unfold Lib.compareBytes;simp[ih,UInt8.lt_irrefl]
theorem Nj(z:List UInt8):∀(x y:List UInt8),x.length=y.length->Lib.compareBytes (x++z) (y++z)=Lib.compareBytes x y
 |[],[],_=>by rw[List.nil_append,UU];rfl
 |a::x,b::y,h=>by have c:=Nj z x y (by simpa using h);show Lib.compareBytes (a::(x++z)) (b::(y++z))=_;unfold Lib.compareBytes;rw[c]
theorem RK:∀(x y:List UInt8),x.length=y.length->(Lib.compareBytes x y<0↔x<y)
 |[],[],_=>by simp[Lib.compareBytes]
 |a::x,b::y,h=>by
  have c:=RK x y (by simpa using h);unfold Lib.compareBytes;rw[List.cons_lt_cons_iff,<-c];by_cases h1:a<b
  .simp[h1]
  .by_cases h2:b<a
   .have:¬a=b:=fun e=>by subst e;exact absurd h2 (UInt8.lt_irrefl _)
    simp[h1,h2,this]
   .have:a=b:=UInt8.le_antisymm (UInt8.not_lt.1 h2) (UInt8.not_lt.1 h1);simp[this]
theorem Pt:∀(x y:List UInt8),x.length=y.length->(Lib.compareBytes x y=0↔x=y)
 |[],[],_=>by simp[Lib.compareBytes]
 |a::x,b::y,h=>by
  have c:=Pt x y (by simpa using h);unfold Lib.compareBytes;by_cases h1:a<b
  .have:¬a=b:=fun e=>by subst e;exact absurd h1 (UInt8.lt_irrefl _)
   simp[h1,this]
  .by_cases h2:b<a
   .have:¬a=b:=fun e=>by subst e;exact absurd h2 (UInt8.lt_irrefl _)
    simp[h1,h2,this]
   .have:a=b:=UInt8.le_antisymm (UInt8.not_lt.1 h2) (UInt8.not_lt.1 h1);simp[this,c]
theorem KC(s:Zi)(h:s.size<=8):Lib.bytesOf (kI s)=s.data.toList++List.replicate (8 -s.size) 0:=by
 have c:=Bz s;have b:∀i,(kB s i).toNat.toUInt8=(s.data.toList[i]?).getD 0:=fun i=>by unfold kB;simp
 unfold kI Lib.bytesOf;simp only[List.map_cons,List.map_nil,b];apply List.ext_getElem?;intro i;rw[List.getElem?_append];rw[c];rcases Nat.lt_or_ge i 8 with a|a
 .have e:([(s.data.toList[0]?).getD 0,(s.data.toList[1]?).getD 0,(s.data.toList[2]?).getD 0,(s.data.toList[3]?).getD 0,(s.data.toList[4]?).getD 0,(s.data.toList[5]?).getD 0,(s.data.toList[6]?).getD 0,(s.data.toList[7]?).getD 0]:List UInt8)[i]?=some ((s.data.toList[i]?).getD 0):=by rcases(show i=0\/i=1\/i=2\/i=3\/i=4\/i=5\/i=6\/i=7 by omega)with rfl|rfl|rfl|rfl|rfl|rfl|rfl|rfl<;>rfl
  rw[e];by_cases hi:i<s.size
  .rw[if_pos hi,Zv Yv];rfl
  .rw[if_neg hi,List.getElem?_eq_none Yv,List.getElem?_replicate,if_pos Yv];rfl
 .rw[List.getElem?_eq_none Yt,if_neg Yv,List.getElem?_eq_none Yt]
theorem Tj(b:s.size<=8)(a:t.size=s.size):EA s t<0↔less s t=true:=by unfold EA less;rw[KC s b,KC t Yv,a,Nj _ _ _ (by rw[Bz,Bz,a]),RK _ _ (by rw[Bz,Bz,a]),ByteArray.toList_eq,ByteArray.toList_eq,Nc]
theorem RL(b:s.size<=8)(a:t.size=s.size):EA s t=0↔s=t:=by
 unfold EA;rw[KC s b,KC t Yv,a,Nj _ _ _ (by rw[Bz,Bz,a]),Pt _ _ (by rw[Bz,Bz,a])];constructor
 .intro h;exact toList_inj (by rw[ByteArray.toList_eq,ByteArray.toList_eq];exact h)
 .rintro rfl;rfl
theorem Nk(h:Aa w b (Bj s)):∀j x,(kI s)[j]?=some x->w.cell? ((⟨b,0,none⟩:Addr).add j)=some (.int .u8 x):=by intro j x a;rw[Go.WideShapes.add_plain,Nat.zero_add];have c:j<8:=(Zw a).1;refine(h j (.int .u8 x) ?_).1;unfold Bj Cu;unfold kI at a;rcases(show j=0\/j=1\/j=2\/j=3\/j=4\/j=5\/j=6\/j=7 by omega)with rfl|rfl|rfl|rfl|rfl|rfl|rfl|rfl<;>(simp at a;subst a;rfl)
theorem OM(w:Zh)(a b:Nat)(s t:Zi)(f:Aa w a (Bj s))(g:Aa w b (Bj t)):
 (callFunc 179 #[Yz a 8 8,Yz b 8 8]).run prog w=.ok (.value (Zg (EA s t))) w:=by
 rw[run_callFunc_extern (fn:=f179) (e:=Extern.BytealgCompare.compare) func179 Yr Yr Yr Yr];have c:=Lib.run_loadBytesX (P:=prog) w (kI s) ⟨a,0,none⟩ .empty (Nk f);have d:=Lib.run_loadBytesX (P:=prog) w (kI t) ⟨b,0,none⟩ .empty (Nk g);have h:∀l:List UInt8,(⟨ByteArray.empty.data++l.toArray⟩:Zi)=⟨l.toArray⟩:=fun l=>by apply ByteArray.ext;show(#[]:Array UInt8)++l.toArray=l.toArray;simp
 rw[h]at c d;change (Sem.run prog (do pure (goInt (Extern.BytealgCompare.cmp (<-Extern.Bytes.bytesOf (Yz a 8 8)) (<-Extern.Bytes.bytesOf (Yz b 8 8))))) w).andThen _=_;simp only[Extern.Bytes.bytesOf,Sem.run_bind,Sem.run_pure];rw[show(8:Nat)=(kI s).length from rfl,c];rw[Result.andThen_ok,show(kI s).length=(kI t).length from rfl,d];simp only[Result.andThen];rw[Lib.cmp_eq];rfl
theorem Kb(w:Zh)(a b:Nat)(s t:Zi)(c:Aa w a (Bj s))(d:Aa w b (Bj t)):
 Calls prog 167 #[Yz a 8 8,Yz b 8 8] w fun e f=>e=.returned (Zg (EA s t))/\f=w:=by
 have g:=OM w a b s t c d;clear c d;go_enter func167,ntmps167;go_wp2;go_ret;exact⟨rfl,rfl⟩
theorem KD(s t:Zi)(w:Zh):
 Calls prog 166 #[BX s,BX t] w fun e h=>e=.returned (Zg (EA s t))/\Zz w h:=by
 obtain⟨W,a⟩:=Af ((w.alloc (.cells (Yk (kB s)) 94)).alloc (.cells (Yk (kB t)) 94));have g:=(Bf a).1;have d:Aa W w.heap.size (Bj s):=by rw[a];exact Aa.below (v:=.int .u8 (kB s 0)) (Aa.new w (Bj s) 94) (Zy)
 have f:Aa W (w.heap.size+1) (Bj t):=by have:=Aa.new (w.alloc (.cells (Yk (kB s)) 94)) (Bj t) 94;rw[World.size_alloc]at this;rw[a];exact this
 have b:=Yw (Za d f);have c:=Yw a;clear a d f;unfold BX Cu;go_enter func166,ntmps166;go_upto_region 1 with fail;rw[<-c.o];clear c;go_region_with (go_at_call 167;refine(Kb W.drew w.heap.size (w.heap.size+1) s t b.o.1 b.o.2).mono ?_;rintro e i ⟨rfl,rfl⟩)
 all_goals
  go_wp2;go_ret;exact⟨rfl,g.drew⟩
structure Jp (ss:Zl) (s:Zi) (i:Nat):Prop where
 le:i<=ss.length
 y:∀j x,j<i->ss[j]?=some x->less x s=true
 hi:∀j x,i<=j->ss[j]?=some x->less x s=false
theorem UW{a:Zl}(e:w.ownsRow b 94 8 (Yz g a.length cap) a.length (Bk a))(c:a[k]?=some s):∀j,j<8->w.cell? (Zd g (k *8+j))=some (.int .u8 (kB s j)):=fun j d=>by have:=(Zw c).1;exact(e.cellAt _ Yv).trans (EO c d)
theorem VQ{a:Zl}(c:w.ownsRow b 94 8 (Yz g a.length cap) a.length (Bk a))(d:a[k]?=some s):
 w.cell? (Zd g (k *8))=some (.int .u8 (kB s 0))/\w.cell? (Zd g (k *8+1))=some (.int .u8 (kB s 1))/\w.cell? (Zd g (k *8+2))=some (.int .u8 (kB s 2))/\w.cell? (Zd g (k *8+3))=some (.int .u8 (kB s 3))/\w.cell? (Zd g (k *8+4))=some (.int .u8 (kB s 4))/\w.cell? (Zd g (k *8+5))=some (.int .u8 (kB s 5))/\w.cell? (Zd g (k *8+6))=some (.int .u8 (kB s 6))/\w.cell? (Zd g (k *8+7))=some (.int .u8 (kB s 7)):=
 have h:=UW c d
 ⟨by simpa using h 0 Yq,h 1 Yq,h 2 Yq,h 3 Yq,h 4 Yq,h 5 Yq,h 6 Yq,h 7 Yq⟩
theorem Lu(h:Aa w g (Bj s)):
 w.cell? (Zd g 0)=some (.int .u8 (kB s 0))/\w.cell? (Zd g 1)=some (.int .u8 (kB s 1))/\w.cell? (Zd g 2)=some (.int .u8 (kB s 2))/\w.cell? (Zd g 3)=some (.int .u8 (kB s 3))/\w.cell? (Zd g 4)=some (.int .u8 (kB s 4))/\w.cell? (Zd g 5)=some (.int .u8 (kB s 5))/\w.cell? (Zd g 6)=some (.int .u8 (kB s 6))/\w.cell? (Zd g 7)=some (.int .u8 (kB s 7)):=
 ⟨(h 0 _ rfl).1,(h 1 _ rfl).1,(h 2 _ rfl).1,(h 3 _ rfl).1,(h 4 _ rfl).1,(h 5 _ rfl).1,(h 6 _ rfl).1,(h 7 _ rfl).1⟩
theorem Qb(g cap:Nat)(d:Zl)(s:Zi)(w:Zh)(zC:Nat)(ho:w.ownsRow zC 94 8 (.slice (some ⟨g,0,none⟩) d.length cap) d.length (Bk d))(hl:d.length<=600)(zR:s.size<=8)(zI:∀x∈d,x.size=s.size)(l:d.Pairwise (fun a b=>less a b=true)):
 Calls prog 165 #[.slice (some ⟨g,0,none⟩) d.length cap,BX s,.func (.func 166) #[] #[]] w fun e w'=>∃i:Nat,e=.returned (.tuple #[Zg i,.bool (decide (d[i]?=some s))])/\Jp d s i/\Zz w w':=by
 unfold BX Cu;have zO:=(Ac ho rfl).2;obtain⟨W,hW⟩:=Af (w.alloc (.cells (Yk (kB s)) 94));have N:=(AL hW).1;have cb:Aa W w.heap.size (Bj s):=by rw[hW];exact Aa.new w (Bj s) 94
 have zH:=Al ho N;have HW:Hid _:=hW;have HO:Hid _:=zH;have HC:Hid _:=cb;have zS:=Aa.lt (v:=.int .u8 (kB s 0)) cb;clear hW zH cb ho;go_enter func165,ntmps165;go_upto_region 1 with fail;rw[<-HW.o];clear HW;have zN:=enters_of func166 Yr rfl;go_wp2
 go_loopw [9,10] (fun i j wr=>∃lo f:Nat,i=Zg lo/\j=Zg f/\lo<=f/\f<=d.length/\Hid ((∀j x,j<lo->d[j]?=some x->less x s=true)/\(∀j x,f<=j->d[j]?=some x->less x s=false))/\Zz W wr) (fun i j _=>(intOf j).toNat -(intOf i).toNat)
 case atStart=>exact⟨0,d.length,rfl,rfl,Nat.zero_le _,Zx,⟨fun j x h=>by omega,fun j x h hx=>by have:=(Zw hx).1;omega⟩,Ad⟩
 case round=>
  obtain⟨lo,f,rfl,rfl,zP,zF,HI,c⟩:=hrel;have q:=c.size;by_cases hlt:lo<f
  .have O:(lo+f)/2<d.length:=Yv
   have n:Hid _:=Zv O;have zM:=zI _ (List.getElem_mem O);generalize d[(lo+f)/2]=x at *
   obtain⟨r0,P,Q,R,S,T,r6,U⟩:=VQ (Al HO.o c) n.o;obtain⟨V,X,Y,Z,t4,t5,t6,t7⟩:=Lu (Aa.below (v:=.int .u8 (kB s 0)) HC.o c);have r:=Ae.cell r0 (show g<wr.heap.size by omega);have u:=Ae.cell P (show g<wr.heap.size by omega);have z:=Ae.cell Q (show g<wr.heap.size by omega);have A:=Ae.cell R (show g<wr.heap.size by omega);have B:=Ae.cell S (show g<wr.heap.size by omega)
   have C:=Ae.cell T (show g<wr.heap.size by omega);have D:=Ae.cell r6 (show g<wr.heap.size by omega);have E:=Ae.cell U (show g<wr.heap.size by omega);have F:=Ae.cell V (show w.heap.size<wr.heap.size by omega);have G:=Ae.cell X (show w.heap.size<wr.heap.size by omega);have H:=Ae.cell Y (show w.heap.size<wr.heap.size by omega);have I:=Ae.cell Z (show w.heap.size<wr.heap.size by omega)
   have J:=Ae.cell t4 (show w.heap.size<wr.heap.size by omega);have K:=Ae.cell t5 (show w.heap.size<wr.heap.size by omega);have L:=Ae.cell t6 (show w.heap.size<wr.heap.size by omega);have M:=Ae.cell t7 (show w.heap.size<wr.heap.size by omega);have zG:=Ae.ne wr
   have k:Hid (∀m:Ae wr,Calls prog 166 #[.agg (Yk (kB x)),.agg (Yk (kB s))] m.w fun e w'=>e=.returned (Zg (EA x s))/\Below m.w.heap.size m.w w'):=fun m=>KD x s m.w;clear r0 P Q R S T r6 U V X Y Z t4 t5 t6 t7;have zA:Hid _:=Tj (s:=x) (t:=s) Yv Yv;by_cases hc:EA x s<0
   .have hd:decide (EA x s<0)=true:=by simpa using hc
    go_wp2;refine Ai Yr Yr ?_
    repeat (go_big_quiet_step (exact Ae.calls (k.o _)))
    refine wpQuiet_nil ?_;intro m;clear r u z A B C D E F G H I J K L M k;go_wp2;refine⟨⟨(lo+f)/2+1,f,Yn,rfl,Yv,zF,⟨?_,HI.o.2⟩,c.trans (m.h.mono q)⟩,Ys⟩;intro j y hj o;rcases Nat.lt_or_ge j ((lo+f)/2)with h|h
    .have:=List.pairwise_iff_getElem.1 l j ((lo+f)/2) Yv O h;obtain⟨_,rfl⟩:=Zw o;obtain⟨_,e⟩:=Zw n.o;rw[e]at this;exact BI this (zA.o.1 hc)
    .obtain rfl:j=(lo+f)/2:=Yv
     rw[n.o]at o;cases o;exact zA.o.1 hc
   .have hd:decide (EA x s<0)=false:=by simpa using hc
    have zJ:Hid _:=hc;clear hc;go_wp2;refine Ai Yr Yr ?_
    repeat (go_big_quiet_step (exact Ae.calls (k.o _)))
    refine wpQuiet_nil ?_;intro m;clear r u z A B C D E F G H I J K L M k;go_wp2;refine⟨⟨lo,(lo+f)/2,rfl,Yn,Yv,Yv,⟨HI.o.1,?_⟩,c.trans (m.h.mono q)⟩,Ys⟩;have zB:less x s=false:=by
     cases h:less x s with
     |false=>rfl
     |true=>exact absurd (zA.o.2 h) zJ.o
    intro j y hj o;rcases Nat.lt_or_ge ((lo+f)/2) j with h|h
    .have zK:=(Zw o).1;have:=List.pairwise_iff_getElem.1 l ((lo+f)/2) j O zK h;obtain⟨_,rfl⟩:=Zw o;obtain⟨_,e⟩:=Zw n.o;rw[e]at this;cases h':less d[j] s with
     |false=>rfl
     |true=>rw[BI this h']at zB;cases zB
    .obtain rfl:j=(lo+f)/2:=Yv
     rw[n.o]at o;cases o;exact zB
  .obtain rfl:lo=f:=Yv
   have HP:Hid (Jp d s lo):=⟨zF,HI.o.1,HI.o.2⟩;by_cases hn:lo<d.length
   .have n:Hid _:=Zv hn;have zM:=zI _ (List.getElem_mem hn);generalize d[lo]=x at *
    obtain⟨r0,P,Q,R,S,T,r6,U⟩:=VQ (Al HO.o c) n.o;obtain⟨V,X,Y,Z,t4,t5,t6,t7⟩:=Lu (Aa.below (v:=.int .u8 (kB s 0)) HC.o c);have r:=Ae.cell r0 (show g<wr.heap.size by omega);have u:=Ae.cell P (show g<wr.heap.size by omega);have z:=Ae.cell Q (show g<wr.heap.size by omega);have A:=Ae.cell R (show g<wr.heap.size by omega);have B:=Ae.cell S (show g<wr.heap.size by omega)
    have C:=Ae.cell T (show g<wr.heap.size by omega);have D:=Ae.cell r6 (show g<wr.heap.size by omega);have E:=Ae.cell U (show g<wr.heap.size by omega);have F:=Ae.cell V (show w.heap.size<wr.heap.size by omega);have G:=Ae.cell X (show w.heap.size<wr.heap.size by omega);have H:=Ae.cell Y (show w.heap.size<wr.heap.size by omega);have I:=Ae.cell Z (show w.heap.size<wr.heap.size by omega)
    have J:=Ae.cell t4 (show w.heap.size<wr.heap.size by omega);have K:=Ae.cell t5 (show w.heap.size<wr.heap.size by omega);have L:=Ae.cell t6 (show w.heap.size<wr.heap.size by omega);have M:=Ae.cell t7 (show w.heap.size<wr.heap.size by omega);have zG:=Ae.ne wr
    have k:Hid (∀m:Ae wr,Calls prog 166 #[.agg (Yk (kB x)),.agg (Yk (kB s))] m.w fun e w'=>e=.returned (Zg (EA x s))/\Below m.w.heap.size m.w w'):=fun m=>KD x s m.w;clear r0 P Q R S T r6 U V X Y Z t4 t5 t6 t7;have zE:Hid _:=RL (s:=x) (t:=s) Yv Yv;by_cases hc:EA x s=0
    .have hd:(EA x s==0)=true:=by simpa using hc
     go_wp2;refine Ai Yr Yr ?_
     repeat (go_big_quiet_step (exact Ae.calls (k.o _)))
     refine wpQuiet_nil ?_;intro m;clear r u z A B C D E F G H I J K L M k;go_wp2
     go_ret2
     refine⟨lo,?_,HP.o,N.trans ((c.trans (m.h.mono q)).mono N.size)⟩;rw[n.o,zE.o.1 hc,decide_eq_true rfl];rfl
    .have hd:(EA x s==0)=false:=by simpa using hc
     go_wp2;refine Ai Yr Yr ?_
     repeat (go_big_quiet_step (exact Ae.calls (k.o _)))
     refine wpQuiet_nil ?_;intro m;clear r u z A B C D E F G H I J K L M k;go_wp2
     go_ret2
     refine⟨lo,?_,HP.o,N.trans ((c.trans (m.h.mono q)).mono N.size)⟩;rw[n.o,decide_eq_false (fun e=>hc (zE.o.2 (Option.some.inj e)))];rfl
   .have zG:=Ae.ne wr;go_wp2;refine Ai Yr Yr ?_
    repeat (go_big_quiet_step (fail))
    refine wpQuiet_nil ?_;intro m;go_wp2
    go_ret2
    refine⟨lo,?_,HP.o,N.trans ((c.trans (m.h.mono q)).mono N.size)⟩;rw[List.getElem?_eq_none Yv,decide_eq_false Yu];rfl
section
open Go.WideElems Go.MapKept Go.ChangeMaps
open Classical in
noncomputable def ff (f:Lit->Option Value) (kl:Lit):Lit->Option Value:=fun x=>if x=kl then none else f x
theorem Bh.del{K t:TypeId}{f:Lit->Option Value}(h:Bh w K b n f)(q:Maps.Keyed prog K)(v:prog.underlying t=some (.map K e)){a:Lit}(d:keyOf prog K j=some a)(k:TypeId):
 ∃c,(Builtin.delete_ #[t,K] k #[.map (some b),j]).run prog w=.ok (.tuple #[]) c/\Bh c K b n (ff f a)/\w.grownBy c (some b):=by
 obtain⟨D,l,m,o⟩:=h;obtain⟨c,u,s,A,clock,y,g,B,rfl⟩:=l.drop q v d k;refine⟨_,u,⟨_,s,fun x z=> ?_,fun x=> ?_⟩,?_⟩
 .by_cases hx:x=a
  .subst hx;rw[Maps.atKey_del_same];simp[ff]
  .rw[Maps.atKey_del_other hx,m];simp[ff,hx]
 .by_cases hx:x=a
  .subst hx;rw[Maps.has_del_same];simp[ff]
  .rw[Maps.has_del_other hx,o];simp[ff,hx]
 .refine⟨rfl,rfl,rfl,by simp[setBlock],fun i _ r=> ?_⟩;simp only[setBlock];rw[Array.getElem?_setIfInBounds_ne (fun e=>r (by rw[e]))]
theorem UX(w:Zh):(zeroValue 94).run prog w=.ok (.agg Cj) w:=Yr
theorem ME(w:Zh)(i:TypeId)(b o c:Nat)(g:∀j,j<8->(w.cell? (Zd b (o+j))).isSome=true)(h:∀j,j<8->w.frozen? ⟨b,o+j,none⟩=false):
 (Builtin.clear_ #[90] i #[.slice (some ⟨b,o,none⟩) 1 c]).run prog w=.ok (.tuple #[]) (w.setCells b o Cj.toList):=by
 have e:(Builtin.zeroCells (Value.agg Cj).cells 1).toList=Cj.toList:=Yr
 have a:=run_storeCells_cells (P:=prog) b o Cj.toList 0 w (by simpa [Cj]using g) (by simpa [Cj]using h) (by intro v d;simp[Cj]at d;subst d;rfl);simp only[Nat.add_zero]at a;have f:=UX;unfold Cj at e a f |-;simp[Builtin.clear_,run_underlying underlying90,f,e,a]
theorem Nl{b:Zj}:∀(vs:Zj) (o:Nat) (w:Zh),w.ownsRow a e size (Yz g n cap) n b->n *size<=o->(w.setCells g o vs).ownsRow a e size (Yz g n cap) n b
 |[],_,_,h,_=>h
 |v::r,o,w,h,ho=>by rw[World.setCells];refine Nl r (o+1) _ ?_ Yv;have:=(h.stored o v).1;rw[List.set_eq_of_length_le (by rw[h.1];exact ho)]at this;exact this
theorem KE(g:Nat):∀(vs:Zj) (o:Nat) (w:Zh),w.grownBy (w.setCells g o vs) (some g)
 |[],_,w=>⟨rfl,rfl,rfl,Zx,fun _ _ _=>rfl⟩
 |v::r,o,w=>by rw[World.setCells];exact Ap (AY w g o v) (KE g r (o+1) _)
theorem IL{a:Zh}(h:w.drew.grownBy a r):w.grownBy a r:=⟨h.os,h.tape,h.output,h.size,h.block⟩
theorem UY{b:Zl}(h:w.ownsRow a 94 8 (Yz g b.length cap) b.length (Bk b))(i:Nat)(n:i<=b.length):w.ownsRow a 94 8 (Yz g i cap) i (Bk (b.take i)):=by
 refine⟨by rw[EN,List.length_take];congr 1;omega,?_⟩;rcases h.2 with⟨e,_⟩|⟨o,d,c,e,l,m,q,f,j,k⟩
 .cases e
 .cases e;refine .inr ⟨g,cap,c,rfl,l,m,Yv,f,j,?_⟩;rw[Fl,<-Ta Rk b i n,<-Fl,<-k,List.take_take];congr 1;omega
theorem MF(g cap i:Nat)(a:Zl)(w:Zh)(d:Nat)(s:w.ownsRow d 94 8 (Yz g a.length cap) a.length (Bk a))(hl:a.length<=600)(hi:i<a.length):
 Calls prog 149 #[Yz g a.length cap,Zg i,Zg ((i:Int)+1)] w fun e C=>e=.returned (Yz g (a.length -1) cap)/\C.ownsRow d 94 8 (Yz g (a.length -1) cap) (a.length -1) (Bk (a.eraseIdx i))/\w.grownBy C (some g):=by
 obtain⟨M,o,U,G,V⟩:=info_parts Pm;have n:a.length<=cap/\cap<=maxLen:=by
  rcases s.2 with⟨e,_⟩|⟨I,m,D,e,L,z,x,y,J,K⟩
  .cases e
  .cases e;exact⟨x,y⟩
 obtain⟨N,E⟩:=n;unfold maxLen at E;have hcut:=UY s i Yv;obtain⟨A,Z,c⟩:∃A,(if cap=i+1 then some (⟨g,0,none⟩:Addr)else some ⟨g,(i+1) *8,none⟩)=some A/\∀j u,(Bk (a.drop (i+1)))[j]?=some u->w.drew.cell? (A.add j)=some u:=by
  by_cases h:cap=i+1
  .refine⟨⟨g,0,none⟩,by rw[if_pos h],fun j u k=> ?_⟩;rw[List.drop_of_length_le Yv]at k;simp[Bk]at k
  .refine⟨⟨g,(i+1) *8,none⟩,by rw[if_neg h],fun j u k=> ?_⟩;rw[Go.WideShapes.add_plain];rw[Fl,<-Nb Rk a (i+1) Yv,<-Fl,List.getElem?_drop]at k;have F:=(Zw k).1;rw[EN]at F;exact(s.cellAt _ Yv).trans k
 obtain⟨t,B,b,f⟩:=run_append_fits (P:=prog) w.drew d 90 90 94 M 8 underlying90 o G g i cap (Bk (a.take i)) hcut A (a.length -(i+1)) (cap -(i+1)) (Bk (a.drop (i+1))) (by rw[EN,List.length_drop]) c (Kz _) Yv;rw[<-Ix,show i+(a.length -(i+1))=a.length -1 by omega]at b;rw[show i+(a.length -(i+1))=a.length -1 by omega]at B;have q:=(List.eraseIdx_eq_take_drop_succ a i).symm;rw[q]at b
 have v:=Yw (Zn b f);clear c b hcut q;go_enter func149,ntmps149;have O:¬((i:Int)==(i:Int)+1)=true:=Yt
 have Q:i<=cap:=Yv
 have R:(0:Int)<=(i:Int)+1:=Yv
 have S:(i:Int)+1<=(a.length:Int):=Yv
 have T:((i:Int)+1).toNat=i+1:=Yv
 go_upto_region 5 with fail
 go_region_law (first
  |(refine BH Yp (.tmp 22) (.tmp 25) 90 90 Yp Yp (by simp[Act.eval,Act.put]) B ?_))
 all_goals
  have r:∀j,j<8->(t.cell? (Zd g ((a.length -1) *8+j))).isSome=true/\t.frozen? ⟨g,(a.length -1) *8+j,none⟩=false:=fun j l=>by
   obtain⟨b,f⟩:=v.o;rcases b.2 with⟨e,_⟩|⟨I,m,D,e,L,z,x,y,J,K⟩
   .cases e
   .cases e;constructor
    .simp only[World.cell?,z];rw[Array.getElem?_eq_getElem Yv];rfl
    .exact b.frozenAt _
  have H:=ME t 0 g ((a.length -1) *8) (cap -(a.length -1)) (fun j l=>(r j l).1) (fun j l=>(r j l).2);have W:a.length -(a.length -1)=1:=Yv
  have X:¬cap=a.length -1:=Yv
  have Y:a.length -1<=a.length:=Yv
  go_wp2;go_ret;obtain⟨b,f⟩:=v.o;exact⟨rfl,Nl _ _ _ b (Zx),Ap (IL f) (KE g _ _ _)⟩
theorem RM(f d m g cap:Nat)(P L:Value)(T now l h:Int)(c:List Kd)(s:Zi)(w:Zh)(j:Aa w d [Zg T,.map (some m),Zg now,Zg l,Zg h,Yz g c.length cap,P,L])(k:w.ownsRow f 94 8 (Yz g c.length cap) c.length (Bk (c.map (·.sum))))(N:c.length<=600)(B:s.size<=8)(C:∀x∈c,x.sum.size=s.size)(n:(c.map (·.sum)).Pairwise (fun a b=>less a b=true)):
 Calls prog 148 #[Yy d,BX s] w fun e S=>∃i:Nat,e=.returned (.tuple #[Zg i,.bool (decide ((c.map (·.sum))[i]?=some s))])/\Jp (c.map (·.sum)) s i/\Zz w S:=by
 obtain⟨W,q⟩:=Af (w.alloc (.cells (Yk (kB s)) 94));have o:=(AL q).1;have v:Aa W w.heap.size (Bj s):=by rw[q];exact Aa.new w (Bj s) 94
 have r:W.drew.ownsRow f 94 8 (Yz g (c.map (·.sum)).length cap) (c.map (·.sum)).length (Bk (c.map (·.sum))):=by rw[List.length_map];exact Al k o.drew
 have HS:=Yw (Qb g cap (c.map (·.sum)) s W.drew f r (by rw[List.length_map];exact N) B (fun x O=>by obtain⟨y,Q,rfl⟩:=List.mem_map.1 O;exact C y Q) n);rw[List.length_map]at HS
 have M:W.drew.cell? (Zd d 5)=some (Yz g c.length cap)/\(W.drew.cell? (Zd (w.heap.size) 0)=some (.int .u8 (kB s 0))/\W.drew.cell? (Zd (w.heap.size) 1)=some (.int .u8 (kB s 1))/\W.drew.cell? (Zd (w.heap.size) 2)=some (.int .u8 (kB s 2))/\W.drew.cell? (Zd (w.heap.size) 3)=some (.int .u8 (kB s 3))/\W.drew.cell? (Zd (w.heap.size) 4)=some (.int .u8 (kB s 4))/\W.drew.cell? (Zd (w.heap.size) 5)=some (.int .u8 (kB s 5))/\W.drew.cell? (Zd (w.heap.size) 6)=some (.int .u8 (kB s 6))/\W.drew.cell? (Zd (w.heap.size) 7)=some (.int .u8 (kB s 7))):=⟨(Aa.below j o 5 _ rfl).1,Lu v⟩
 have u:=Yw q;clear q v r j k;unfold BX Cu at *
 go_enter func148,ntmps148;go_upto_region 1 with fail;rw[<-u.o];clear u;obtain⟨R,D,E,F,G,H,I,J,K⟩:=M;go_region_with (go_at_call 165;refine HS.Am ?_;rintro e U ⟨i,rfl,A,z⟩)
 all_goals
  have t:=Yw (Zn A (o.trans ((CG z).mono o.size)));clear A z R D E F G H I J K HS;go_wp2
  go_ret2
  exact⟨i,by first|rfl|simp[Act.put],t.o.1,t.o.2⟩
end
theorem Tk(x:Zi)(w:Zh):Calls prog 170 #[.string x] w fun e a=>e=.returned (.bool false)/\Zz w a:=by go_enter func170,ntmps170;go_wp2;go_ret;exact⟨Yu,Ad⟩
theorem Tl(x:Zi)(w:Zh):Calls prog 185 #[.string x] w fun e a=>e=.returned (.bool false)/\Zz w a:=by go_enter func185,ntmps185;go_wp2;go_ret;exact⟨Yu,Ad⟩
theorem Md(x y:Zi)(w:Zh):Calls prog 184 #[.string x,.string y] w fun e b=>e=.returned (.bool (less x y))/\Zz w b:=by go_enter func184,ntmps184;unfold less;go_wp2_with (go_at_call 170;refine(Tk x w).mono ?_;rintro e c ⟨rfl,a⟩);go_wp2;go_ret;exact⟨Yu,a⟩
theorem ON(a:Zk)(cap:Nat)(f:Zl)(s:Zi)(w:Zh)(r:Ab w w.heap.size a f)(S:f.length<=1000)(g:f.Pairwise (fun a b=>less a b=true)):
 Calls prog 178 #[.slice a f.length cap,.string s] w fun e O=>∃(i:Int) (ok:Bool),e=.returned (.tuple #[Zg i,.bool ok])/\(ok=true↔s∈f)/\Zz w O:=by
 have R:=Yw Md;go_enter func178,ntmps178;go_wp2
 go_loopw [7,8] (fun i j wr=>∃lo d:Nat,i=Zg lo/\j=Zg d/\lo<=d/\d<=f.length/\Hid ((∀j x,j<lo->f[j]?=some x->less x s=true)/\(∀j x,d<=j->f[j]?=some x->less x s=false))/\Zz w wr) (fun i j _=>(intOf j).toNat -(intOf i).toNat)
 case atStart=>exact⟨0,f.length,rfl,rfl,Nat.zero_le _,Zx,⟨fun j x h=>by omega,fun j x h G=>by have:=(Zw G).1;omega⟩,Ad⟩
 case round=>
  obtain⟨lo,d,rfl,rfl,Q,K,B,c⟩:=hrel;have E:=c.size;by_cases hlt:lo<d
  .have u:(lo+d)/2<f.length:=Yv
   have l:=Yw (Zv u);obtain⟨b,off,F,L,k⟩:=(r.below c).at u;subst F;have G:=k _ _ l.o;clear k;generalize f[(lo+d)/2]=x at *
   go_wp2_with fail;refine(Md x s wr).mono ?_;rintro e P ⟨rfl,z⟩;have D:=c.trans (z.mono E);by_cases k:less x s=true
   .rw[k];go_wp2;refine⟨⟨(lo+d)/2+1,d,Yn,rfl,Yv,K,⟨?_,B.o.2⟩,D⟩,Ys⟩;intro j y t n;rcases Nat.lt_or_ge j ((lo+d)/2)with h|h
    .have:=List.pairwise_iff_getElem.1 g j ((lo+d)/2) Yv u h;obtain⟨_,rfl⟩:=Zw n;obtain⟨_,e⟩:=Zw l.o;rw[e]at this;exact BI this k
    .obtain rfl:j=(lo+d)/2:=Yv
     rw[l.o]at n;cases n;exact k
   .have v:less x s=false:=by simpa using k
    rw[v];go_wp2;refine⟨⟨lo,(lo+d)/2,rfl,Yn,Yv,Yv,⟨B.o.1,?_⟩,D⟩,Ys⟩;intro j y t n;rcases Nat.lt_or_ge ((lo+d)/2) j with h|h
    .have A:=(Zw n).1;have:=List.pairwise_iff_getElem.1 g ((lo+d)/2) j u A h;obtain⟨_,rfl⟩:=Zw n;obtain⟨_,e⟩:=Zw l.o;rw[e]at this;cases C:less f[j] s with
     |false=>rfl
     |true=>rw[BI this C]at v;cases v
    .obtain rfl:j=(lo+d)/2:=Yv
     rw[l.o]at n;cases n;exact v
  .obtain rfl:lo=d:=Yv
   have q:s∈f->f[lo]?=some s:=fun N=>by
    obtain⟨j,t⟩:=List.getElem?_of_mem N;rcases Nat.lt_or_ge j lo with h|h
    .have:=B.o.1 j s h t;rw[BA]at this;cases this
    .rcases Nat.lt_or_ge lo j with C|C
     .have A:=(Zw t).1;have I:=List.pairwise_iff_getElem.1 g lo j Yv A C;have J:=B.o.2 lo _ (Zx) (Zv Yv);obtain⟨_,e⟩:=Zw t;rw[e]at I;rw[I]at J;cases J
     .obtain rfl:j=lo:=Yv
      exact t
   have H:=Yw q;clear q;by_cases hn:lo<f.length
   .have l:=Yw (Zv hn);obtain⟨b,off,F,L,k⟩:=(r.below c).at hn;subst F;have G:=k _ _ l.o;clear k;generalize f[lo]=x at *
    by_cases he:x=s
    .subst he;have m:=Zs l.o;have o:=Yw m;clear m;have M:(x.toList==x.toList)=true:=Yu
     go_wp2
     go_ret2
     exact⟨_,true,by first|rfl|simp[Act.put],⟨fun _=>o.o,fun _=>rfl⟩,c⟩
    .have m:¬s∈f:=by intro h;have:=H.o h;rw[l.o]at this;exact he (Option.some.inj this)
     have o:=Yw m;clear m;have M:=Bu he;go_wp2_with (go_at_call 185;refine(Tl x wr).mono ?_;rintro e P ⟨rfl,z⟩);go_wp2
     go_ret2
     exact⟨_,false,by first|rfl|simp[Act.put],⟨(fun h=>by cases h),(fun h=>absurd h o.o)⟩,c.trans (z.mono E)⟩
   .have m:¬s∈f:=by intro h;have:=(Zw (H.o h)).1;omega
    have o:=Yw m;clear m;go_wp2
    go_ret2
    exact⟨_,false,by first|rfl|simp[Act.put],⟨(fun h=>by cases h),(fun h=>absurd h o.o)⟩,c⟩
section
attribute [local go_sem↓] Go.wp_at_zero Go.wp_at_succ
theorem Qc(p:Pd)(s:Zi)(b:Nat)(w:Zh)(d:w.cell? (Zd b 0)=some (.string s)):
 Calls prog 173 #[.agg #[.string p.name,.string p.sum],Yy b] w fun e g=>e=.returned (.bool (decide (p.sum=s)))/\Zz w g:=by
 have j:b<w.heap.size:=World.block_lt_of_cell? w _ d;have i:¬w.heap.size=b:=Yv
 have c:∀o,Zz w (w.alloc o):=fun o=>Zy;by_cases h:p.sum=s
 .have f:(p.sum.toList==s.toList)=true:=by rw[h];simp
  have a:decide (p.sum=s)=true:=by simpa using h
  clear h;go_enter func173,ntmps173;go_wp2;go_ret;exact⟨by rw[a];rfl,c _⟩
 .have f:(p.sum.toList==s.toList)=false:=Bu h;have a:decide (p.sum=s)=false:=by simpa using h
  clear h;go_enter func173,ntmps173;go_wp2;go_ret;exact⟨by rw[a];rfl,c _⟩
theorem Nn(a:Zk)(cap b:Nat)(d:List Pd)(s:Zi)(w:Zh)(g:AM w w.heap.size a d)(L:d.length<=1048576)(u:w.cell? (Zd b 0)=some (.string s)):
 Calls prog 182 #[.slice a d.length cap,.func (.func 173) #[] #[Yy b]] w fun e F=>∃r:Int,e=.returned (Zg r)/\(0<=r↔∃p∈d,p.sum=s)/\Zz w F:=by
 have A:=World.block_lt_of_cell? w _ u;go_enter func182,ntmps182;go_wp2
 go_loopw [8] (fun i wr=>∃k:Nat,k<=d.length/\i=Zg k/\Hid (∀j x,j<k->d[j]?=some x->¬x.sum=s)/\Zz w wr) (fun i _=>d.length -(intOf i).toNat)
 case atStart=>exact⟨0,Nat.zero_le _,rfl,(fun j x h=>by omega),Ad⟩
 case round=>
  obtain⟨k,K,rfl,f,c⟩:=hrel;have C:=c.size;by_cases hlt:k<d.length
  .obtain⟨G,off,E,J,m⟩:=(g.below c).at hlt;subst E;have o:=Yw (Zv hlt);obtain⟨H,I⟩:=m k _ o.o;have B:=(c.cell (p:=⟨b,0,none⟩) A).trans u;clear m g;generalize d[k]=x at *
   go_wp2_with fail;refine(Qc x s b wr B).mono ?_;rintro e M ⟨rfl,z⟩;have l:=c.trans (z.mono C);by_cases h:x.sum=s
   .have n:decide (x.sum=s)=true:=by simpa using h
    rw[n];go_wp2;go_ret;exact⟨_,rfl,⟨fun _=>⟨x,Zs o.o,h⟩,fun _=>by omega⟩,l⟩
   .have D:Hid (∀j y,j<k+1->d[j]?=some y->¬y.sum=s):=by
     intro j y v q;rcases Nat.lt_or_ge j k with t|t
     .exact f.o j y t q
     .obtain rfl:j=k:=Yv
      rw[o.o]at q;cases q;exact h
    have n:decide (x.sum=s)=false:=by simpa using h
    rw[n];clear h;go_wp2;exact⟨⟨k+1,Yv,Yn,D,l⟩,Ys⟩
  .go_wp2;go_ret;refine⟨_,rfl,⟨fun h=>by omega,fun⟨p,hp,h⟩=> ?_⟩,c⟩;obtain⟨j,v,rfl⟩:=List.getElem_of_mem hp;exact absurd h (f.o j _ Yv (Zv v))
theorem KF(a:Zk)(cap b:Nat)(c:List Pd)(s:Zi)(w:Zh)(d:AM w w.heap.size a c)(l:c.length<=1048576)(j:w.cell? (Zd b 0)=some (.string s)):
 Calls prog 172 #[.slice a c.length cap,.func (.func 173) #[] #[Yy b]] w fun e m=>∃ok,e=.returned (.bool ok)/\(ok=true↔∃p∈c,p.sum=s)/\Zz w m:=by
 go_enter func172,ntmps172;go_wp2_with fail;refine(Nn a cap b c s w d l j).mono ?_;rintro e n ⟨r,rfl,i,f⟩;have g:=Yw i;clear i;by_cases h:0<=r
 .have k:decide ((0:Int)<=r)=true:=by simpa using h
  go_wp2;go_ret;exact⟨true,rfl,⟨(fun _=>g.o.1 h),(fun _=>rfl)⟩,f⟩
 .have k:decide ((0:Int)<=r)=false:=by simpa using h
  go_wp2;go_ret;exact⟨false,rfl,⟨(fun e=>by cases e),(fun e=>absurd (g.o.2 e) Yv)⟩,f⟩
theorem No(p:Ld)(s:Zi)(b:Nat)(w:Zh)(d:w.cell? (Zd b 0)=some (.string s)):
 Calls prog 175 #[.agg #[Zg p.I,.string p.sum,Zg p.Y],Yy b] w fun e g=>e=.returned (.bool (decide (p.sum=s)))/\Zz w g:=by
 have j:b<w.heap.size:=World.block_lt_of_cell? w _ d;have i:¬w.heap.size=b:=Yv
 have c:∀o,Zz w (w.alloc o):=fun o=>Zy;by_cases h:p.sum=s
 .have f:(p.sum.toList==s.toList)=true:=by rw[h];simp
  have a:decide (p.sum=s)=true:=by simpa using h
  clear h;go_enter func175,ntmps175;go_wp2;go_ret;exact⟨by rw[a];rfl,c _⟩
 .have f:(p.sum.toList==s.toList)=false:=Bu h;have a:decide (p.sum=s)=false:=by simpa using h
  clear h;go_enter func175,ntmps175;go_wp2;go_ret;exact⟨by rw[a];rfl,c _⟩
theorem Lv(a:Zk)(cap b:Nat)(d:List Ld)(s:Zi)(w:Zh)(g:AN w w.heap.size a d)(L:d.length<=1048576)(u:w.cell? (Zd b 0)=some (.string s)):
 Calls prog 162 #[.slice a d.length cap,.func (.func 175) #[] #[Yy b]] w fun e F=>∃r:Int,e=.returned (Zg r)/\(0<=r↔∃p∈d,p.sum=s)/\Zz w F:=by
 have A:=World.block_lt_of_cell? w _ u;go_enter func162,ntmps162;go_wp2
 go_loopw [8] (fun i wr=>∃k:Nat,k<=d.length/\i=Zg k/\Hid (∀j x,j<k->d[j]?=some x->¬x.sum=s)/\Zz w wr) (fun i _=>d.length -(intOf i).toNat)
 case atStart=>exact⟨0,Nat.zero_le _,rfl,(fun j x h=>by omega),Ad⟩
 case round=>
  obtain⟨k,K,rfl,f,c⟩:=hrel;have C:=c.size;by_cases hlt:k<d.length
  .obtain⟨G,off,E,J,m⟩:=(g.below c).at hlt;subst E;have o:=Yw (Zv hlt);obtain⟨H,I,c2⟩:=m k _ o.o;have B:=(c.cell (p:=⟨b,0,none⟩) A).trans u;clear m g;generalize d[k]=x at *
   go_wp2_with fail;refine(No x s b wr B).mono ?_;rintro e M ⟨rfl,z⟩;have l:=c.trans (z.mono C);by_cases h:x.sum=s
   .have n:decide (x.sum=s)=true:=by simpa using h
    rw[n];go_wp2;go_ret;exact⟨_,rfl,⟨fun _=>⟨x,Zs o.o,h⟩,fun _=>by omega⟩,l⟩
   .have D:Hid (∀j y,j<k+1->d[j]?=some y->¬y.sum=s):=by
     intro j y v q;rcases Nat.lt_or_ge j k with t|t
     .exact f.o j y t q
     .obtain rfl:j=k:=Yv
      rw[o.o]at q;cases q;exact h
    have n:decide (x.sum=s)=false:=by simpa using h
    rw[n];clear h;go_wp2;exact⟨⟨k+1,Yv,Yn,D,l⟩,Ys⟩
  .go_wp2;go_ret;refine⟨_,rfl,⟨fun h=>by omega,fun⟨p,hp,h⟩=> ?_⟩,c⟩;obtain⟨j,v,rfl⟩:=List.getElem_of_mem hp;exact absurd h (f.o j _ Yv (Zv v))
theorem Jy(a:Zk)(cap b:Nat)(c:List Ld)(s:Zi)(w:Zh)(d:AN w w.heap.size a c)(l:c.length<=1048576)(j:w.cell? (Zd b 0)=some (.string s)):
 Calls prog 174 #[.slice a c.length cap,.func (.func 175) #[] #[Yy b]] w fun e m=>∃ok,e=.returned (.bool ok)/\(ok=true↔∃p∈c,p.sum=s)/\Zz w m:=by
 go_enter func174,ntmps174;go_wp2_with fail;refine(Lv a cap b c s w d l j).mono ?_;rintro e n ⟨r,rfl,i,f⟩;have g:=Yw i;clear i;by_cases h:0<=r
 .have k:decide ((0:Int)<=r)=true:=by simpa using h
  go_wp2;go_ret;exact⟨true,rfl,⟨(fun _=>g.o.1 h),(fun _=>rfl)⟩,f⟩
 .have k:decide ((0:Int)<=r)=false:=by simpa using h
  go_wp2;go_ret;exact⟨false,rfl,⟨(fun e=>by cases e),(fun e=>absurd (g.o.2 e) Yv)⟩,f⟩
theorem Qd(o d m:Nat)(O P L:Value)(N now c a:Int)(H:List Kd)(n:List Pd)(k:List Ld)(s:Zi)(w:Zh)(f:Dr w o d m O P L N now c a H n k)(T:n.length<=100)(S:k.length<=200):
 Calls prog 163 #[Yy d,.string s] w fun e K=>∃ok,e=.returned (.bool ok)/\(ok=true↔(∃p∈n,p.sum=s)\/∃l∈k,l.sum=s)/\Zz w K:=by
 have Q:∀(fn:Fn) (first cap:Array Value) (w:Zh),(Instr.makeFunc fn first cap).run prog w=.ok (.func fn first cap) w:=fun _ _ _ _=>rfl;obtain⟨J,F,rfl⟩:=As f.cv;obtain⟨I,C,rfl⟩:=As f.dz;have R:=Yw f;obtain⟨W,j⟩:=Af (w.alloc (.cells #[.string s] 9));have i:=(AL j).1;have h:W.cell? (Zd (w.heap.size) 0)=some (.string s):=by rw[j];simp
 have g:=f.below i;obtain⟨c6,c7⟩:=Aa.c2 g.box 6 7;have r:=Yw g;have x:=Yw j;clear j f g;go_enter func163,ntmps163;go_upto_region 1 with fail;rw[<-x.o];clear x;go_wp2_with fail;refine(KF J F _ n s W (AM.own r.o.cv) Yv h).mono ?_;rintro e M ⟨D,rfl,z,b⟩;have q:=Yw (Dr.below r.o b);obtain⟨G,_⟩:=q.o.box 7 _ rfl;have y:=(b.cell (p:=⟨w.heap.size,0,none⟩) (World.block_lt_of_cell? W _ h)).trans h
 have u:=Yw z;clear z c6 c7 h;go_wp2_with fail;refine(Jy I C _ k s M (AN.own q.o.dz) Yv y).mono ?_;rintro e U ⟨E,rfl,A,B⟩;have v:=Yw A;have t:=(i.trans (b.mono i.size)).trans (B.mono (Zm i.size b.size));clear A G y;cases D
 .go_wp2;go_ret;exact⟨E,rfl,⟨(fun e=> .inr (v.o.1 e)),(fun e=>e.elim (fun e=>by have:=u.o.2 e;cases this) v.o.2)⟩,t⟩
 .go_wp2;go_ret;exact⟨true,rfl,⟨(fun _=> .inl (u.o.1 trivial)),(fun _=>rfl)⟩,t⟩
end
theorem Qe(A now c a:Int)(T:Value)(p l:Zk)(z v:Nat)(d:List Pd)(g:List Ld)(s:Zi)(w:Zh)(I:AM w w.heap.size p d)(H:AN w w.heap.size l g)(zA:d.length<=1000)(Z:g.length<=1000):
 Calls prog 152 #[.agg #[Zg A,Zg now,Zg c,Zg a,T,.slice p d.length z,.slice l g.length v],.string s] w fun e Y=>Ao ((∃p∈d,p.sum=s)\/∃l∈g,l.sum=s) w Y e:=by
 have M:=Yw I;have K:=Yw H;have J:=Aq.new w A now c a T (.slice p d.length z) (.slice l g.length v) 27;have n:Below w.heap.size w (w.alloc (.cells #[Zg A,Zg now,Zg c,Zg a,T,.slice p d.length z,.slice l g.length v] 27)):=Zy;obtain⟨W,D⟩:=Af (w.alloc (.cells #[Zg A,Zg now,Zg c,Zg a,T,.slice p d.length z,.slice l g.length v] 27));rw[<-D]at J n;have G:=Yw D;clear I H D
 obtain⟨R,S,U,V,X,q5,q6,q7⟩:=J;clear R S U V X;go_enter func152,ntmps152;go_upto_region 1 with fail;rw[<-G.o];clear G;go_wp2
 go_loop [5] (fun i=>∃k:Nat,k<=d.length/\i=Zg k/\Hid (∀j x,j<k->d[j]?=some x->¬x.sum=s)) (fun i=>d.length -(intOf i).toNat)
 case atStart=>exact⟨0,Nat.zero_le _,rfl,(fun j x h=>by omega)⟩
 case round=>
  obtain⟨k,Q,rfl,f⟩:=hrel;by_cases hlt:k<d.length
  .obtain⟨b,off,E,P,r⟩:=(AM.below M.o n).at hlt;subst E;have o:Hid (d[k]?=some d[k]):=Zv hlt;obtain⟨N,O⟩:=r k _ o.o;clear r;generalize d[k]=x at *
   by_cases h:x.sum=s
   .have F:(x.sum.toList==s.toList)=true:=by rw[h];simp
    have C:=Yw h;clear h;go_wp2;refine bodyPost_ret (results_tmp rfl _ _ _) rfl ?_;exact Ao.yes (.inl ⟨x,Zs o.o,C.o⟩) n
   .have F:(x.sum.toList==s.toList)=false:=Bu h;have B:Hid (∀j y,j<k+1->d[j]?=some y->¬y.sum=s):=by
     intro j y t m;rcases Nat.lt_or_ge j k with q|q
     .exact f.o j y q m
     .obtain rfl:j=k:=Yv
      rw[o.o]at m;cases m;exact h
    clear h;go_wp2;exact⟨⟨k+1,Yv,Yn,B⟩,Ys⟩
  .have L:Hid (¬∃p∈d,p.sum=s):=by rintro⟨y,m,u⟩;obtain⟨j,t,rfl⟩:=List.getElem_of_mem m;exact f.o j _ Yv (Zv t) u
   clear f;go_wp2
   go_loop [6] (fun i=>∃k:Nat,k<=g.length/\i=Zg k/\Hid (∀j x,j<k->g[j]?=some x->¬x.sum=s)) (fun i=>g.length -(intOf i).toNat)
   case atStart=>exact⟨0,Nat.zero_le _,rfl,(fun j x h=>by omega)⟩
   case round=>
    obtain⟨k,Q,rfl,f⟩:=hrel;by_cases hlt:k<g.length
    .obtain⟨b,off,E,P,r⟩:=(AN.below K.o n).at hlt;subst E;have o:Hid (g[k]?=some g[k]):=Zv hlt;obtain⟨N,O,c2⟩:=r k _ o.o;clear r;generalize g[k]=x at *
     by_cases h:x.sum=s
     .have F:(x.sum.toList==s.toList)=true:=by rw[h];simp
      have C:=Yw h;clear h;go_wp2;refine bodyPost_ret (results_tmp rfl _ _ _) rfl ?_;exact Ao.yes (.inr ⟨x,Zs o.o,C.o⟩) n
     .have F:(x.sum.toList==s.toList)=false:=Bu h;have B:Hid (∀j y,j<k+1->g[j]?=some y->¬y.sum=s):=by
       intro j y t m;rcases Nat.lt_or_ge j k with q|q
       .exact f.o j y q m
       .obtain rfl:j=k:=Yv
        rw[o.o]at m;cases m;exact h
      clear h;go_wp2;exact⟨⟨k+1,Yv,Yn,B⟩,Ys⟩
    .go_wp2;refine bodyPost_ret (results_tmp rfl _ _ _) rfl ?_;refine Ao.no (fun e=> ?_) n;rcases e with e|⟨y,m,u⟩
     .exact absurd e L.o
     .obtain⟨j,t,rfl⟩:=List.getElem_of_mem m;exact absurd u (f.o j _ Yv (Zv t))
theorem Dq(a:Zk)(cap:Nat)(c:Zl)(s:Zi)(w:Zh)(B:Nat)(f:Ab w B a c)(E:c.length<=1048576):
 Calls prog 27 #[.slice a c.length cap,.string s] w fun e v=>e=.returned (.bool (c.any (fun x=>decide (x=s))))/\v=w:=by
 go_enter func27,ntmps27;go_wp2
 go_loop [5] (fun i=>∃k:Nat,k<=c.length/\i=Zg k/\Hid (∀j x,j<k->c[j]?=some x->x≠s)) (fun i=>c.length -(intOf i).toNat)
 case atStart=>exact⟨0,Nat.zero_le _,rfl,fun j x h=>by omega⟩
 case round=>
  obtain⟨k,D,rfl,d⟩:=hrel;by_cases hlt:k<c.length
  .obtain⟨b,off,r,C,o⟩:=f.at hlt;subst r;have g:=Yw (Zv hlt);have A:=o k _ g;clear o f;generalize c[k]=x at *
   by_cases he:x=s
   .subst he;have t:Hid (c.any (fun y=>decide (y=x))=true):=by show _=_;rw[List.any_eq_true];exact⟨x,Zs g.o,Yu⟩
    go_wp2;go_ret;exact⟨AE t.o.symm,rfl⟩
   .have z:=Bu he;have q:Hid (∀j y,j<k+1->c[j]?=some y->y≠s):=by
     intro j y l m;rcases Nat.lt_or_ge j k with n|n
     .exact d.o j y n m
     .obtain rfl:j=k:=Yv
      rw[g.o]at m;cases m;exact he
    clear he d g;go_wp2;exact⟨⟨k+1,Yv,Yn,q⟩,Ys⟩
  .go_wp2;go_ret;refine⟨AE ?_,rfl⟩
   symm
   rw[List.any_eq_false];intro x u;obtain⟨j,l⟩:=List.getElem?_of_mem u;simpa using d.o j x (by have:=(Zw l).1;omega) l
theorem Fq(t:Zi)(l:Zk)(o:Nat)(b:Zl)(w:Zh)(hr:Ab w w.heap.size l b)(z:l=none->b.length=0/\o=0)(hl:b.length<=1048576):
 Calls prog 84 #[.agg #[.string t,.slice l b.length o]] w fun e T=>∃g c,e=.returned (.agg #[.string t,Yz g b.length c])/\
  T.ownsRow w.heap.size 9 1 (Yz g b.length c) b.length (b.map Value.string)/\Zz w T:=by
 obtain⟨i0,hi,U,V,X⟩:=info_parts BO;obtain⟨m,d⟩:=Af (w.alloc (.cells #[.string t,.slice l b.length o] 63));have q:=(AL d).1;have K:=(AL d).2.2;have A:=(AL d).2.1;obtain⟨W,x⟩:=Af (m.alloc (.cells #[Zc,Zb] 63));have r:=(AL x).1;have u:=(AL x).2.2;have L:=K.below r;have i:Below w.heap.size w W:=q.trans (r.mono q.size);have C:m.heap.size<W.heap.size:=u.lt
 obtain⟨B,N⟩:=Af m.heap.size;have F:w.heap.size<B:=Yv
 rw[<-N]at u C;have k:w.heap.size<W.heap.size:=Yv
 have E:=Yw d;have I:=Yw x;have J:Hid (w.heap.size+1=B):=by show _=_;omega
 obtain⟨R,S⟩:=Aa.c2 L 0 1;have h:Below W.heap.size W (W.alloc (.cells #[] 9)):=Zy;have P:(W.alloc (.cells #[] 9)).drew.ownsRow (B+1) 9 1 (Yz W.heap.size 0 0) 0 (([]:Zl).map Value.string):=World.ownsRow_lit W #[] 0 Yv Yo rfl;have Q:=(Ab.below hr (i.trans (h.drew.mono i.size))).ay
 have q0:(W.alloc (.cells #[] 9)).cell? (Zd (w.heap.size) 0)=some (.string t):=(h.cell (p:=⟨w.heap.size,0,none⟩) k).trans R;have q1:(W.alloc (.cells #[] 9)).cell? (Zd (w.heap.size) 1)=some (.slice l b.length o):=(h.cell (p:=⟨w.heap.size,1,none⟩) k).trans S;have HR:=Yw u;have D:=Yw i;clear d x N q r K u L i A;go_enter func84,ntmps84;go_upto_region 1 with fail;rw[<-E.o,<-I.o,J.o];clear E I J
 go_region_law (first
  |(refine Ax (W.alloc (.cells #[] 9)).drew rfl (.tmp 5) (.tmp 7) 29 rfl (B+1) 9 i0 Zc 16 underlying29 hi U V X rfl W.heap.size 0 0 [] rfl P l b.length o b rfl rfl z Q Yo Yv Yt ?_;intro O f H s G y Y;simp only[Nat.zero_add,List.nil_append]at s;have n:Below W.heap.size W H:=h.drew.grown G Yu (fun j hj=>by cases hj;exact Zx);have M:=Aa.below HR.o n;obtain⟨y0,f0⟩:=M 0 _ rfl;obtain⟨y1,f1⟩:=M 1 _ rfl;have p0:=(n.cell (p:=⟨w.heap.size,0,none⟩) k).trans R;have p1:=(n.cell (p:=⟨w.heap.size,1,none⟩) k).trans S))
 all_goals
  have HO:=Yw s;have Z:Hid (Zz w H):=D.o.trans (n.mono D.o.size);clear s G y n P Q q0 q1;go_wp2;refine bodyPost_ret (v:=.agg #[.string t,Yz O b.length f]) (by simp[results,results84,go_sem, *]) rfl ?_;refine⟨_,_,rfl,?_,?_⟩
  .exact(ownsRow_setCell_below (ownsRow_setCell_below HO.o (a:=⟨B,0,none⟩) (Nat.lt_succ_self B) _) (a:=⟨B,1,none⟩) (Nat.lt_succ_self B) _).mono Yv
  .exact(Z.o.setCell (p:=⟨B,0,none⟩) (Nat.le_of_lt F) _).setCell (p:=⟨B,1,none⟩) (Nat.le_of_lt F) _
theorem Qf{c:Zl}(h:∀(j:Nat) p q,c[j]?=some p->c[j+1]?=some q->less p q=true):c.Pairwise (fun a b=>less a b=true):=by
 have k:∀(d i:Nat) u v,c[i]?=some u->c[i+d+1]?=some v->less u v=true:=by
  intro d;induction d with
  |zero=>intro i u v f e;exact h i u v f e
  |succ d ih=>intro i u v f e;have o:=(Zw e).1;have g:c[i+d+1]?=some c[i+d+1]:=Zv Yv;exact BI (ih i u _ f g) (h _ _ _ g (by rw[show i+d+1+1=i+(d+1)+1 by omega];exact e))
 rw[List.pairwise_iff_getElem];intro i j l m n;exact k (j -i -1) i _ _ (Zv l) (by rw[show i+(j -i -1)+1=j by omega];exact Zv m)
theorem GU{d:Zl}(h:d.Pairwise (fun a b=>less a b=true)):d.Nodup:=by refine List.Pairwise.imp ?_ h;intro a b c e;rw[e,BA]at c;cases c
theorem IM{g:Int}{d:Zl}(h:Di g d=true):d.Pairwise (fun a b=>less a b=true):=by refine Qf (fun j p q f c=> ?_);have e:=(Zw c).1;unfold Di at h;rw[List.all_eq_true]at h;have:=h (j+1) (by simpa using e);rw[DF c f]at this;simp at this;exact this.2
section
open Go.Proofs
theorem Jq{a b:Zi}(h:a.toList=b.toList):a=b:=by rw[Lib.toList_data,Lib.toList_data]at h;cases a;cases b;simpa using h
theorem Np{a b:Zi}:less a b=true↔a.toList<b.toList:=by unfold less;rw[bytesLess_eq,decide_eq_true_iff]
theorem Kc{a b:Zi}(h:less a b=false)(c:a≠b):less b a=true:=by
 rw[Np];have d:¬a.toList<b.toList:=fun e=>by rw[Np.2 e]at h;cases h
 have f:=List.not_lt.1 d;by_cases e:b.toList<a.toList
 .exact e
 .exact absurd (Jq (Std.le_antisymm (List.not_lt.1 e) f)) c
end
def CU(rest:Zi)(bad:Bool)(n:Int):Zi×Zi×Bool:=
 if bad=true then (⟨#[]⟩,rest,true)else if (rest.size:Int)<n then (⟨#[]⟩,rest,true)else (rest.extract 0 n.toNat,rest.extract n.toNat rest.size,false)
def ET(l:List UInt8):Int:=l.foldl (fun a b=>a *256+(b.toNat:Int)) 0
def Nq(rest:Zi)(bad:Bool):Zi:=(CU rest bad rest.size).1
def Nr(rest:Zi)(bad:Bool):Zi:=(CU rest bad rest.size).2.1
def MS(rest:Zi)(bad:Bool)(wd:Int):Bool:=(CU rest bad rest.size).2.2|| !(rd (Nq rest bad) wd).2.2
def Fw(k:Int):Bool:=decide (1<=k/\k<=7)
def Lw(k:Int):Bool:=Fw k&&JZ k.toNat
def IN(k:Int):Bool:=Fw k&&He k.toNat
def Ns(wd:Int):Bool:= !decide (1<=wd/\wd<=8)
def Ke(s:Zi)(wd:Int):Zi×Zi×Bool:=CU s (Ns wd) (1:Nat)
def Hg(s:Zi)(wd:Int):Int:=ET (Ke s wd).1.data.toList
def Kf(s:Zi)(wd:Int):Bool:=(Ke s wd).2.2|| !Fw (Hg s wd)
def Ib(s:Zi)(wd:Int):Zi×Zi×Bool:=CU (Ke s wd).2.1 (Kf s wd) (4:Nat)
def Ut(s:Zi)(wd:Int):Int:=ET (Ib s wd).1.data.toList
def Ic(s:Zi)(wd:Int):Zi×Zi×Bool:=CU (Ib s wd).2.1 (Ib s wd).2.2 (1:Nat)
def VR(s:Zi)(wd:Int):Int:=ET (Ic s wd).1.data.toList
def FG(s:Zi)(wd:Int):Zi×Zi×Bool:=CU (Ic s wd).2.1 (Ic s wd).2.2 (VR s wd)
def Ds(s:Zi)(wd:Int):Zi×Zi×Bool:=if Lw (Hg s wd)=true then CU (FG s wd).2.1 (FG s wd).2.2 wd else (⟨#[]⟩,(FG s wd).2)
def IP(s:Zi)(wd:Int):Zi×Zl:=if IN (Hg s wd)=true then ((rd (Nq (Ds s wd).2.1 (Ds s wd).2.2) wd).1,(rd (Nq (Ds s wd).2.1 (Ds s wd).2.2) wd).2.1)else (⟨#[]⟩,[])
def Kg(s:Zi)(wd:Int):Zi×Bool:=if IN (Hg s wd)=true then (Nr (Ds s wd).2.1 (Ds s wd).2.2,MS (Ds s wd).2.1 (Ds s wd).2.2 wd)else (Ds s wd).2
def Kh(s:Zi)(wd:Int):Bool:=(Kg s wd).2|| !decide ((Kg s wd).1.size=0)
def Lx(s:Zi)(wd:Int):Bool:=Ca (Hg s wd) (Ds s wd).1 (FG s wd).1 (Ut s wd) (IP s wd).1 (IP s wd).2 wd
def Dt(s:Zi)(wd:Int):Bool:=Kh s wd|| !Lx s wd
theorem Me{rest:Zi}{a:Bool}{n:Int}(h:(CU rest a n).2.2=false):a=false:=by
 unfold CU at h;cases a
 .rfl
 .simp at h
theorem UZ(s:Zi)(a:Int):(rd s a).1.size<=s.size:=by
 unfold rd;split
 .split
  .exact Nat.zero_le _
  .unfold Ma Ep;split
   .simp;omega
   .exact Nat.zero_le _
 .exact Nat.zero_le _
end Go.Proofs.YtcfjcdpkpiidkaaGreat
