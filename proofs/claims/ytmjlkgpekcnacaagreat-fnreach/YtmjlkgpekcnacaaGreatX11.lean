import Derived.Test.YtmjlkgpekcnacaaGreatX10
import Derived.RangeFuncNested
import Derived.Shelf.Abstract
import Derived.Shelf.RegionOpen
import Derived.RangeFuncBound
import Derived.RangeFuncCalls
import Derived.RangeFuncLeaves
import Derived.OwnWalkIn
import Derived.TacticsInMore
import Derived.LoopNIn
import Derived.LoopIn
import Derived.Lib.OwnKind
set_option maxRecDepth 100000
set_option maxHeartbeats 16000000
namespace Go.Proofs.YtmjlkgpekcnacaaGreat
open Go.ChangeShapes Go.WideShapes Go.ChangeAt Go.RowKit _root_.Go.Proofs.Tryz
variable{wd c i now:Int}{a k B b d m n lo:Nat}{x:Kd}{X Z W V w:Zh}{e:Zl}{f g:Value}{r:Rs}{v:Vd}
theorem RH(d now b a:Int)(T P L:Value)(w:Zh):
 Calls prog 28 #[.agg #[Zg d,Zg now,Zg b,Zg a,T,P,L]] w fun e g=>Aq (Nn d now b a) w g e:=by
 have c:Below w.heap.size w (w.alloc (.cells #[Zg d,Zg now,Zg b,Zg a,T,P,L] 27)):=Zy;go_enter func28,ntmps28;go_wp2_with fail;refine(PG d _).mono ?_;rintro e f ⟨rfl,rfl⟩;by_cases h0:1<=d/\d<=8
 .rw[decide_eq_true h0];go_wp2_with fail;refine(Jl now _).mono ?_;rintro e f ⟨rfl,rfl⟩;by_cases h1:0<=now/\now<=1000000000
  .rw[decide_eq_true h1];go_wp2_with fail;refine(Jl b _).mono ?_;rintro e f ⟨rfl,rfl⟩;by_cases h2:0<=b/\b<=1000000000
   .rw[decide_eq_true h2];go_wp2_with fail;refine(Jl a _).mono ?_;rintro e f ⟨rfl,rfl⟩;by_cases h3:0<=a/\a<=1000000000
    .rw[decide_eq_true h3];go_wp2;go_ret;exact Aq.yes ⟨h0.1,h0.2,h1.1,h1.2,h2.1,h2.2,h3.1,h3.2⟩ c
    .rw[decide_eq_false h3];go_wp2;go_ret;exact Aq.no (fun h=>h3 ⟨h.ak,h.dx⟩) c
   .rw[decide_eq_false h2];go_wp2;go_ret;exact Aq.no (fun h=>h2 ⟨h.bk,h.fg⟩) c
  .rw[decide_eq_false h1];go_wp2;go_ret;exact Aq.no (fun h=>h1 ⟨h.ci,h.gd⟩) c
 .rw[decide_eq_false h0];go_wp2;go_ret;exact Aq.no (fun h=>h0 ⟨h.gu,h.ib⟩) c
theorem De(g now c b:Int)(a p l:Zk)(J pc lc:Nat)(d:List Kd)(A:List Pd)(z:List Ld)(w:Zh)(j:AZ w w.heap.size a p l d A z)(hk:Fm d)(hp:FP A)(hl:Hx z)(G:Fo d A z)(zN:∀k∈d,(Lit.int .i64 k.born).wf=true):
 Calls prog 9 #[.agg (Yj g now c b a d.length J p A.length pc l z.length lc)] w fun e w'=>Aq (Bq g now c b d A z) w w' e:=by
 have yB:Below w.heap.size w (w.alloc (.cells (Yj g now c b a d.length J p A.length pc l z.length lc) 27)):=Zy;have hx:=Ah.new w g now c b (.slice a d.length J) (.slice p A.length pc) (.slice l z.length lc) 27;have zY:=Yw zN;clear zN;go_enter func9,ntmps9;go_wp2_with fail;refine(RH g now c b _ _ _ _).mono ?_;rintro e w1 ⟨b1,rfl,V,Z⟩;have L:=yB.trans (Z.mono Yu);have yG:=hx.below Z
 clear Z hx;cases b1 with
 |false=>go_wp2;go_ret;exact Aq.no (fun h=>by have:=V.2 h.ca;cases this) L
 |true=>
  have F:=V.1 rfl;clear V;obtain⟨n,o,q,r,t,u,v,x⟩:=yG;go_wp2_with fail;refine(KE g now c b a J _ _ d _ (j.M L).k hk G.k G.r F.gu F.ib).mono ?_;rintro e w2 ⟨b2,rfl,X,zA⟩;have M:=L.trans (zA.mono L.size);have yH:=Ah.below ⟨n,o,q,r,t,u,v,x⟩ zA;clear zA n o q r t u v x;cases b2 with
  |false=>go_wp2;go_ret;exact Aq.no (fun h=>by have:=X.2 ⟨h.nth,h.th⟩;cases this) M
  |true=>
   obtain⟨hn,Y⟩:=X.1 rfl;have zG:=Yw Y;clear X;have zT:∀k∈d,(k.sum.size:Int)=g:=fun k yC=>by obtain⟨i,hi⟩:=List.getElem?_of_mem yC;rw[(Y i k hi).sum];exact EY k g F.gu
   have I:=Yw zT;clear Y zT;obtain⟨n,o,q,r,t,u,v,x⟩:=yH;go_wp2_with fail;refine(Ew g now c b a J _ _ d _ (j.M M).k G.k I.o F.ib).mono ?_;rintro e T ⟨m,f,rfl,hm,hM,hH,Q⟩;have y:=M.trans (Q.mono M.size);have zV:=Ah.below ⟨n,o,q,r,t,u,v,x⟩ Q;have z3:=Q.size;have HH:=Yw hH;clear Q n o q r t u v x hH;obtain⟨R,C⟩:∃W,W=T.alloc (.cells #[Zg g,.map (some m)] 64):=⟨_,rfl⟩
   have K:Below T.heap.size T R:=by rw[C];exact Zy
   have s3:R.heap.size=T.heap.size+1:=by rw[C];simp
   have q3:Di R T.heap.size g m:=by rw[C];exact Di.new _ _ _ _
   have H:=zV.below K;have P:=hM.af K hM.lt;have y:=y.trans (K.mono y.size);have zH:=Yw C;clear C K hM;obtain⟨n,o,q,r,t,u,v,x⟩:=zV;have HQ:=Yw (Zn H q3);clear H q3;go_wp2_with fail;rw[<-zH.o];refine(KH g now c b _ _ a J m d R (j.M y).k G.k G.r zY.o zG.o (fun s=>KT g m _ f d _ _ s R P HH.o I.o)).mono ?_;rintro e w4 ⟨b4,rfl,zI,D⟩;have N:=y.trans (D.mono y.size);have zW:=Ah.below HQ.o.1 D
   have zO:=Di.af HQ.o.2 D HQ.o.2.2.2;have B:=P.af D P.lt;clear D n o q r t u v x zH P HQ;have zB:=Yw zI;clear zI;cases b4 with
   |false=>clear zW zO B;go_wp2;go_ret;exact Aq.no (fun h=>by have:=zB.o.2 ⟨h.born,h.ref⟩;cases this) N
   |true=>
    obtain⟨zM,zS⟩:=zB.o.1 rfl;have zF:=Yw (Zn zM zS);clear zM zS;obtain⟨n,o,q,r,t,u,v,x⟩:=zW;obtain⟨g0,g1,S⟩:=zO;go_wp2_with fail;refine(LM g now c b _ _ _ p pc m d A w4 (j.M N).p hp G.p (fun s=>GF g m _ f d _ _ s w4 B HH.o I.o) rfl).mono ?_;rintro e w5 ⟨b5,rfl,zJ,E⟩;have O:=N.trans (E.mono N.size);have zX:=Ah.below ⟨n,o,q,r,t,u,v,x⟩ E;have zP:=Di.af ⟨g0,g1,S⟩ E S;have U:=B.af E B.lt
    clear E n o q r t u v x g0 g1 S B;have zC:=Yw zJ;clear zJ;cases b5 with
    |false=>clear zX zP U;go_wp2;go_ret;exact Aq.no (fun h=>by have:=zC.o.2 ⟨h.np,h.du⟩;cases this) O
    |true=>
     obtain⟨yF,zR⟩:=zC.o.1 rfl;have zZ:=Yw zR;clear zR;obtain⟨n,o,q,r,t,u,v,x⟩:=zX;obtain⟨g0,g1,S⟩:=zP;go_wp2_with fail;refine(KF g now c b _ _ _ l lc m d z w5 (j.M O).l hl G.l F.ci F.gd (fun s=>GF g m _ f d _ _ s w5 U HH.o I.o) rfl).mono ?_;rintro e w6 ⟨b6,rfl,zK,zU⟩;have yA:=O.trans (zU.mono O.size);have zE:=Yw zK;clear zK n o q r t u v x g0 g1 S U zU;go_wp2;go_ret
     refine⟨_,rfl,⟨fun h=> ?_,fun h=>zE.o.2 ⟨h.nl,h.br⟩⟩,yA⟩;obtain⟨yE,yD⟩:=zE.o.1 h;exact⟨F,hn,yF,yE,zG.o,zF.o.1,zF.o.2,zZ.o,yD⟩
theorem Fg(B now d f:Int)(a p l:Zk)(F T S:Nat)(o:List Kd)(q:List Pd)(r:List Ld)(w:Zh)(U:AZ w w.heap.size a p l o q r)(hk:Fm o)(hp:FP q)(hf:Fo o q r):
 Calls prog 7 #[.agg (Yj B now d f a o.length F p q.length T l r.length S)] w fun e E=>Aq (Bq B now d f o q r) w E e:=by
 have R:Below w.heap.size w (w.alloc (.cells (Yj B now d f a o.length F p q.length T l r.length S) 27)):=Zy;have hx:=Ah.new w B now d f (.slice a o.length F) (.slice p q.length T) (.slice l r.length S) 27;have yI:=hf.k;have yK:=hf.p;have yJ:=hf.l;have yD:=Yw U;have zN:=Yw U.k;have yC:=Yw U.p;have yB:=Yw U.l;clear U;go_enter func7,ntmps7;go_wp2_with fail;refine(Ga B _).mono ?_;rintro e w1 ⟨rfl,rfl⟩
 by_cases h0:1<=B/\B<=8
 .rw[decide_eq_true h0];go_wp2_with fail;refine(Cj now 0 1000000000 _).mono ?_;rintro e w1 ⟨rfl,rfl⟩;by_cases h1:0<=now/\now<=1000000000
  .rw[decide_eq_true h1];go_wp2_with fail;refine(Cj d 0 1000000000 _).mono ?_;rintro e w1 ⟨rfl,rfl⟩;by_cases h2:0<=d/\d<=1000000000
   .rw[decide_eq_true h2];go_wp2_with fail;refine(Cj f 0 1000000000 _).mono ?_;rintro e w1 ⟨rfl,rfl⟩;by_cases h3:0<=f/\f<=1000000000
    .rw[decide_eq_true h3];have hN:Nn B now d f:=⟨h0.1,h0.2,h1.1,h1.2,h2.1,h2.2,h3.1,h3.2⟩;by_cases hn1:o.length<=600
     .have zV:decide ((600:Int)<(o.length:Int))=false:=Yt
      by_cases hn2:q.length<=100
      .have zW:decide ((100:Int)<(q.length:Int))=false:=Yt
       by_cases hn3:r.length<=200
       .have zX:decide ((200:Int)<(r.length:Int))=false:=Yt
        go_wp2_with fail;refine(OI B now d f a F _ _ o _ (AZ.M yD.o R).k hk hn1 hf.r hN.gu hN.ib).mono ?_;rintro e w2 ⟨b2,rfl,zZ,zU⟩;have zS:=R.trans (zU.mono Yu);have yA:=hx.below zU;have zP:=Yw zZ;clear zU zZ R hx;cases b2 with
        |false=>clear yA;go_wp2;go_ret;exact Aq.no (fun h=>by have:=zP.o.2 ⟨h.th,h.born,h.ref⟩;cases this) zS
        |true=>
         have zR:=Yw (zP.o.1 rfl);clear zP;obtain⟨G,H,I,J,K,L,M,A⟩:=yA;have zY:=Yw (Za G (Za H (Za I (Za J (Za K (Za L (Za M A)))))));go_wp2
         go_loopw [3] (fun i wr=>∃k:Nat,k<=q.length/\i=Zg k/\Zz w wr/\Hid (Ah wr w.heap.size B now d f (.slice a o.length F) (.slice p q.length T) (.slice l r.length S))/\Hid (∀(j:Nat) x,j<k->q[j]?=some x->FY o q j x)) (fun i _=>q.length -(intOf i).toNat)
         case atStart=>exact⟨0,Nat.zero_le _,rfl,zS,zY,fun j x h=>by omega⟩
         case round=>
          clear G H I J K L M A zY zS;obtain⟨k,zC,rfl,c,HX,s⟩:=hrel;obtain⟨G,H,I,J,K,L,M,A⟩:=HX.o;by_cases hlt:k<q.length
          .obtain⟨b,off,ha,hb,hc⟩:=(AO.below yC.o c).at hlt;subst ha;have N:q[k]?=some q[k]:=Zv hlt;obtain⟨W,X⟩:=hc k _ N;have m1:=hp.name _ (List.getElem_mem hlt);have zB:b<wr.heap.size:=Yv
           match k,zC,hlt,s,N,W,X,m1 with
           |0,zC,hlt,s,N,W,X,m1=>
            have C:=Yw N;clear hc N HX;simp only[Nat.zero_mul,Nat.add_zero]at W X;generalize q[0]=x at *
            go_wp2;have q0:=Ag.cell G A;have q1:=Ag.cell H A;have q2:=Ag.cell I A;have q3:=Ag.cell J A;have q4:=Ag.cell K A;have q5:=Ag.cell L A;have q6:=Ag.cell M A;have q7:=Ag.cell W zB;have q8:=Ag.cell X zB;have zT:=Ag.ne wr
            have hV:∀n:Ag wr,Calls prog 25 #[.string x.name] n.w fun e E=>e=.returned (.bool (BZ x.name))/\Below n.w.heap.size n.w E:=fun n=>(GD _ _ m1).mono (by rintro e E ⟨rfl,rfl⟩;exact⟨rfl,Below.refl _ _⟩)
            have Z:∀n:Ag wr,Calls prog 26 #[.agg (Yj B now d f a o.length F (some ⟨b,off,none⟩) q.length T l r.length S),.string x.sum] n.w fun e E=>e=.returned (Zg (BX o x.sum))/\Below n.w.heap.size n.w E:=fun n=>Cn B now d f a F _ _ o x.sum n.w w.heap.size (AI.below zN.o (c.trans (n.h.mono c.size))) (by have:=n.h.size;omega) Yv;have z:=Yw hV;have v:=Yw Z
            have g:w.heap.size<=wr.heap.size:=c.size;have V:=Yw (Za G (Za H (Za I (Za J (Za K (Za L (Za M A)))))));clear hV Z;cases hnm:BZ x.name with
            |false=>
             rw[hnm]at z;refine Aj Ys Ys ?_
             repeat (go_big_quiet_step (first|exact Ag.calls (z.o _)|exact Ag.calls (v.o _)))
             refine wpQuiet_nil ?_;intro n;have m:=Yw (c.trans (n.h.mono g));clear c;go_wp2;go_ret;exact Aq.no (fun h=>by have:=(h.du _ _ C.o).name;rw[hnm]at this;cases this) m.o
            |true=>
             rw[hnm]at z;rcases BV o x.sum with⟨D,zE⟩|⟨i2,u,D,hu,zF⟩
             .rw[D]at v;refine Aj Ys Ys ?_
              repeat (go_big_quiet_step (first|exact Ag.calls (z.o _)|exact Ag.calls (v.o _)))
              refine wpQuiet_nil ?_;intro n;have m:=Yw (c.trans (n.h.mono g));clear c;go_wp2;go_ret;exact Aq.no (fun h=>zE (h.du _ _ C.o).sum) m.o
             .rw[D]at v;have zH:decide ((i2:Int)<0)=false:=Yu
              have HA:Hid (∀(t:Nat) y,t<0+1->q[t]?=some y->FY o q t y):=by
               intro t y hj Q;rcases Nat.lt_or_ge t (0)with Y|Y
               .exact s.o t y Y Q
               .obtain rfl:t=0:=Yv
                rw[C.o]at Q;cases Q;exact⟨hnm,fun j p h=>by omega,⟨u,Zs hu,zF⟩⟩
              refine Aj Ys Ys ?_
              repeat (go_big_quiet_step (first|exact Ag.calls (z.o _)|exact Ag.calls (v.o _)))
              refine wpQuiet_nil ?_;intro n;have m:=Yw (c.trans (n.h.mono g));have zA:=Ah.af V.o n.h A;clear c;go_wp2;exact⟨⟨0+1,Yv,Yo,m.o,zA,HA⟩,by simp[intOf];omega⟩
           |j+1,zC,hlt,s,N,W,X,m1=>
            have C:=Yw N;have HP:Hid (q[j]?=some q[j]):=Zv Yv;obtain⟨d0,_⟩:=hc j _ HP.o;clear hc N HX;generalize q[j+1]=x at *
            generalize q[j]=p at *
            have yG:IntKind.i64.wrap (j:Int)=(j:Int):=wrap_small Yv Yv;have yE:(0:Int)<=(j:Int):=Yv
            have yF:(j:Int)<(q.length:Int):=Yv
            have yL:(0:Int)<=(j:Int)+1:=Yv
            have yM:(j:Int)+1<(q.length:Int):=Yv
            go_wp2;have q0:=Ag.cell G A;have q1:=Ag.cell H A;have q2:=Ag.cell I A;have q3:=Ag.cell J A;have q4:=Ag.cell K A;have q5:=Ag.cell L A;have q6:=Ag.cell M A;have q7:=Ag.cell W zB;have q8:=Ag.cell X zB;have q9:=Ag.cell d0 zB;have zT:=Ag.ne wr
            have hV:∀n:Ag wr,Calls prog 25 #[.string x.name] n.w fun e E=>e=.returned (.bool (BZ x.name))/\Below n.w.heap.size n.w E:=fun n=>(GD _ _ m1).mono (by rintro e E ⟨rfl,rfl⟩;exact⟨rfl,Below.refl _ _⟩)
            have Z:∀n:Ag wr,Calls prog 26 #[.agg (Yj B now d f a o.length F (some ⟨b,off,none⟩) q.length T l r.length S),.string x.sum] n.w fun e E=>e=.returned (Zg (BX o x.sum))/\Below n.w.heap.size n.w E:=fun n=>Cn B now d f a F _ _ o x.sum n.w w.heap.size (AI.below zN.o (c.trans (n.h.mono c.size))) (by have:=n.h.size;omega) Yv;have z:=Yw hV;have v:=Yw Z
            have g:w.heap.size<=wr.heap.size:=c.size;have V:=Yw (Za G (Za H (Za I (Za J (Za K (Za L (Za M A)))))));clear hV Z;cases hnm:BZ x.name with
            |false=>
             rw[hnm]at z;refine Aj Ys Ys ?_
             repeat (go_big_quiet_step (first|exact Ag.calls (z.o _)|exact Ag.calls (v.o _)))
             refine wpQuiet_nil ?_;intro n;have m:=Yw (c.trans (n.h.mono g));clear c;go_wp2;go_ret;exact Aq.no (fun h=>by have:=(h.du _ _ C.o).name;rw[hnm]at this;cases this) m.o
            |true=>
             rw[hnm]at z;cases hless:Op.bytesLess p.name.toList x.name.toList with
             |false=>
              refine Aj Ys Ys ?_
              repeat (go_big_quiet_step (first|exact Ag.calls (z.o _)|exact Ag.calls (v.o _)))
              refine wpQuiet_nil ?_;intro n;have m:=Yw (c.trans (n.h.mono g));clear c;go_wp2;go_ret;exact Aq.no (fun h=>by have:=(h.du _ _ C.o).up j p rfl HP.o;unfold less at this;rw[hless]at this;cases this) m.o
             |true=>
              rcases BV o x.sum with⟨D,zE⟩|⟨i2,u,D,hu,zF⟩
              .rw[D]at v;refine Aj Ys Ys ?_
               repeat (go_big_quiet_step (first|exact Ag.calls (z.o _)|exact Ag.calls (v.o _)))
               refine wpQuiet_nil ?_;intro n;have m:=Yw (c.trans (n.h.mono g));clear c;go_wp2;go_ret;exact Aq.no (fun h=>zE (h.du _ _ C.o).sum) m.o
              .rw[D]at v;have zH:decide ((i2:Int)<0)=false:=Yu
               have HA:Hid (∀(t:Nat) y,t<(j+1)+1->q[t]?=some y->FY o q t y):=by
                intro t y hj Q;rcases Nat.lt_or_ge t ((j+1))with Y|Y
                .exact s.o t y Y Q
                .obtain rfl:t=(j+1):=Yv
                 rw[C.o]at Q;cases Q;exact⟨hnm,fun j2 p2 h zM=>by cases h;rw[HP.o]at zM;cases zM;exact hless,⟨u,Zs hu,zF⟩⟩
               refine Aj Ys Ys ?_
               repeat (go_big_quiet_step (first|exact Ag.calls (z.o _)|exact Ag.calls (v.o _)))
               refine wpQuiet_nil ?_;intro n;have m:=Yw (c.trans (n.h.mono g));have zA:=Ah.af V.o n.h A;clear c;go_wp2;exact⟨⟨(j+1)+1,Yv,Yo,m.o,zA,HA⟩,by simp[intOf];omega⟩
          .clear G H I J K L M A;obtain⟨G,H,I,J,K,L,M,A⟩:=HX.o;have zO:Hid (∀(i:Nat) x,q[i]?=some x->FY o q i x):=fun i x hx=>s.o i x (by have:=(Zw hx).1;omega) hx;clear s;go_wp2
           go_loopw [4] (fun i wr=>∃k:Nat,k<=r.length/\i=Zg k/\Zz w wr/\Hid (Ah wr w.heap.size B now d f (.slice a o.length F) (.slice p q.length T) (.slice l r.length S))/\Hid (∀(j:Nat) x,j<k->r[j]?=some x->EM now d o r j x)) (fun i _=>r.length -(intOf i).toNat)
           case atStart=>exact⟨0,Nat.zero_le _,rfl,c,HX,fun j x h=>by omega⟩
           case round=>
            obtain⟨k,zC,rfl,c,HX,s⟩:=hrel;obtain⟨G,H,I,J,K,L,M,A⟩:=HX.o;by_cases hlt:k<r.length
            .obtain⟨b,off,ha,hb,hc⟩:=(AR.below yB.o c).at hlt;subst ha;have N:r[k]?=some r[k]:=Zv hlt;obtain⟨W,X,c2⟩:=hc k _ N;have zB:b<wr.heap.size:=Yv
             match k,zC,hlt,s,N,W,X,c2 with
             |0,zC,hlt,s,N,W,X,c2=>
              have C:=Yw N;clear hc N HX;simp only[Nat.zero_mul,Nat.add_zero]at W X c2;generalize r[0]=x at *
              go_wp2;have zG:Below wr.heap.size wr (wr.alloc (Obj.cells #[Value.int IntKind.i64 x.H,Value.string x.sum,Value.int IntKind.i64 x.V] 61)):=Zy;have z1:(wr.alloc (Obj.cells #[Value.int IntKind.i64 x.H,Value.string x.sum,Value.int IntKind.i64 x.V] 61)).heap.size=wr.heap.size+1:=Yu
              have t0:(wr.alloc (Obj.cells #[Value.int IntKind.i64 x.H,Value.string x.sum,Value.int IntKind.i64 x.V] 61)).cell? (Zd (wr.heap.size) 0)=some (Zg x.H):=Yu
              have t1:(wr.alloc (Obj.cells #[Value.int IntKind.i64 x.H,Value.string x.sum,Value.int IntKind.i64 x.V] 61)).cell? (Zd (wr.heap.size) 1)=some (.string x.sum):=Yu
              have t2:(wr.alloc (Obj.cells #[Value.int IntKind.i64 x.H,Value.string x.sum,Value.int IntKind.i64 x.V] 61)).cell? (Zd (wr.heap.size) 2)=some (Zg x.V):=Yu
              have V:Hid (Ah (wr.alloc (Obj.cells #[Value.int IntKind.i64 x.H,Value.string x.sum,Value.int IntKind.i64 x.V] 61)) w.heap.size B now d f (.slice a o.length F) (.slice p q.length T) (.slice (some ⟨b,off,none⟩) r.length S)):=Ah.af ⟨G,H,I,J,K,L,M,A⟩ zG A
              generalize hW1:(wr.alloc (Obj.cells #[Value.int IntKind.i64 x.H,Value.string x.sum,Value.int IntKind.i64 x.V] 61))=W1 at *
              have P:Below w.heap.size w W1:=c.trans (zG.mono c.size);have g:w.heap.size<=W1.heap.size:=P.size;clear G H I J K L M;obtain⟨G,H,I,J,K,L,M,O⟩:=V.o;have q0:=Ag.cell G O;have q1:=Ag.cell H O;have q2:=Ag.cell I O;have q3:=Ag.cell J O;have q4:=Ag.cell K O;have q5:=Ag.cell L O;have q6:=Ag.cell M O;have q7:=Ag.cell t0 Yv;have q8:=Ag.cell t1 Yv
              have q9:=Ag.cell t2 Yv;have zT:=Ag.ne W1;have hV:∀n:Ag W1,Calls prog 23 #[Zg x.H,Zg 1,Zg d] n.w fun e E=>e=.returned (.bool (decide (1<=x.H/\x.H<=d)))/\Below n.w.heap.size n.w E:=fun n=>(Cj _ _ _ _).mono (by rintro e E ⟨rfl,rfl⟩;exact⟨rfl,Below.refl _ _⟩)
              have Z:∀n:Ag W1,Calls prog 26 #[.agg (Yj B now d f a o.length F p q.length T (some ⟨b,off,none⟩) r.length S),.string x.sum] n.w fun e E=>e=.returned (Zg (BX o x.sum))/\Below n.w.heap.size n.w E:=fun n=>Cn B now d f a F _ _ o x.sum n.w w.heap.size (AI.below zN.o (P.trans (n.h.mono P.size))) (by have:=n.h.size;omega) Yv;have z:=Yw hV;have v:=Yw Z
              have yH:IntKind.i64.wrap (now+100000)=now+100000:=Fq Yv Yv;clear hV Z c;have c:=P;by_cases hrg:1<=x.H/\x.H<=d
              .rw[decide_eq_true hrg]at z;rcases BV o x.sum with⟨D,zE⟩|⟨i2,u,D,hu,zF⟩
               .rw[D]at v;refine Aj Ys Ys ?_
                repeat (go_big_quiet_step (first|exact Ag.calls (z.o _)|exact Ag.calls (v.o _)))
                refine wpQuiet_nil ?_;intro n;have m:=Yw (c.trans (n.h.mono g));clear c;go_wp2;go_ret;exact Aq.no (fun h=>zE (h.br _ _ C.o).sum) m.o
               .rw[D]at v;have zH:decide ((i2:Int)<0)=false:=Yu
                by_cases ht1:now<x.V
                .have zI:decide (x.V<=now)=false:=Yt
                 by_cases ht2:x.V<=now+100000
                 .have zJ:decide (now+100000<x.V)=false:=Yt
                  have HA:Hid (∀(t:Nat) y,t<0+1->r[t]?=some y->EM now d o r t y):=by
                   intro t y hj Q;rcases Nat.lt_or_ge t (0)with Y|Y
                   .exact s.o t y Y Q
                   .obtain rfl:t=0:=Yv
                    rw[C.o]at Q;cases Q;exact⟨hrg.1,hrg.2,fun j p h=>by omega,⟨u,Zs hu,zF⟩,ht1,ht2⟩
                  refine Aj Ys Ys ?_
                  repeat (go_big_quiet_step (first|exact Ag.calls (z.o _)|exact Ag.calls (v.o _)))
                  refine wpQuiet_nil ?_;intro n;have m:=Yw (c.trans (n.h.mono g));have zA:=Ah.af V.o n.h O;clear c P;go_wp2;exact⟨⟨0+1,Yv,Yo,m.o,zA,HA⟩,by simp[intOf];omega⟩
                 .have zJ:decide (now+100000<x.V)=true:=Yt
                  refine Aj Ys Ys ?_
                  repeat (go_big_quiet_step (first|exact Ag.calls (z.o _)|exact Ag.calls (v.o _)))
                  refine wpQuiet_nil ?_;intro n;have m:=Yw (c.trans (n.h.mono g));clear c;go_wp2;go_ret;exact Aq.no (fun h=>by have:=(h.br _ _ C.o).gh;omega) m.o
                .have zI:decide (x.V<=now)=true:=Yt
                 refine Aj Ys Ys ?_
                 repeat (go_big_quiet_step (first|exact Ag.calls (z.o _)|exact Ag.calls (v.o _)))
                 refine wpQuiet_nil ?_;intro n;have m:=Yw (c.trans (n.h.mono g));clear c;go_wp2;go_ret;exact Aq.no (fun h=>by have:=(h.br _ _ C.o).gg;omega) m.o
              .rw[decide_eq_false hrg]at z;refine Aj Ys Ys ?_
               repeat (go_big_quiet_step (first|exact Ag.calls (z.o _)|exact Ag.calls (v.o _)))
               refine wpQuiet_nil ?_;intro n;have m:=Yw (c.trans (n.h.mono g));clear c;go_wp2;go_ret;exact Aq.no (fun h=>hrg ⟨(h.br _ _ C.o).lo,(h.br _ _ C.o).hi⟩) m.o
             |j+1,zC,hlt,s,N,W,X,c2=>
              have C:=Yw N;have HP:Hid (r[j]?=some r[j]):=Zv Yv;obtain⟨d0,_,_⟩:=hc j _ HP.o;clear hc N HX;generalize r[j+1]=x at *
              generalize r[j]=p' at *
              have yG:IntKind.i64.wrap (j:Int)=(j:Int):=wrap_small Yv Yv;have yE:(0:Int)<=(j:Int):=Yv
              have yF:(j:Int)<(r.length:Int):=Yv
              go_wp2;have zG:Below wr.heap.size wr (wr.alloc (Obj.cells #[Value.int IntKind.i64 x.H,Value.string x.sum,Value.int IntKind.i64 x.V] 61)):=Zy;have z1:(wr.alloc (Obj.cells #[Value.int IntKind.i64 x.H,Value.string x.sum,Value.int IntKind.i64 x.V] 61)).heap.size=wr.heap.size+1:=Yu
              have t0:(wr.alloc (Obj.cells #[Value.int IntKind.i64 x.H,Value.string x.sum,Value.int IntKind.i64 x.V] 61)).cell? (Zd (wr.heap.size) 0)=some (Zg x.H):=Yu
              have t1:(wr.alloc (Obj.cells #[Value.int IntKind.i64 x.H,Value.string x.sum,Value.int IntKind.i64 x.V] 61)).cell? (Zd (wr.heap.size) 1)=some (.string x.sum):=Yu
              have t2:(wr.alloc (Obj.cells #[Value.int IntKind.i64 x.H,Value.string x.sum,Value.int IntKind.i64 x.V] 61)).cell? (Zd (wr.heap.size) 2)=some (Zg x.V):=Yu
              have V:Hid (Ah (wr.alloc (Obj.cells #[Value.int IntKind.i64 x.H,Value.string x.sum,Value.int IntKind.i64 x.V] 61)) w.heap.size B now d f (.slice a o.length F) (.slice p q.length T) (.slice (some ⟨b,off,none⟩) r.length S)):=Ah.af ⟨G,H,I,J,K,L,M,A⟩ zG A;have d1:=(zG.cell (p:=⟨b,off+j *3,none⟩) zB).trans d0
              generalize hW1:(wr.alloc (Obj.cells #[Value.int IntKind.i64 x.H,Value.string x.sum,Value.int IntKind.i64 x.V] 61))=W1 at *
              have P:Below w.heap.size w W1:=c.trans (zG.mono c.size);have g:w.heap.size<=W1.heap.size:=P.size;clear G H I J K L M;obtain⟨G,H,I,J,K,L,M,O⟩:=V.o;have q0:=Ag.cell G O;have q1:=Ag.cell H O;have q2:=Ag.cell I O;have q3:=Ag.cell J O;have q4:=Ag.cell K O;have q5:=Ag.cell L O;have q6:=Ag.cell M O;have q7:=Ag.cell t0 Yv;have q8:=Ag.cell t1 Yv
              have q9:=Ag.cell t2 Yv;have yN:=Ag.cell d1 Yv;have zT:=Ag.ne W1;have hV:∀n:Ag W1,Calls prog 23 #[Zg x.H,Zg 1,Zg d] n.w fun e E=>e=.returned (.bool (decide (1<=x.H/\x.H<=d)))/\Below n.w.heap.size n.w E:=fun n=>(Cj _ _ _ _).mono (by rintro e E ⟨rfl,rfl⟩;exact⟨rfl,Below.refl _ _⟩)
              have Z:∀n:Ag W1,Calls prog 26 #[.agg (Yj B now d f a o.length F p q.length T (some ⟨b,off,none⟩) r.length S),.string x.sum] n.w fun e E=>e=.returned (Zg (BX o x.sum))/\Below n.w.heap.size n.w E:=fun n=>Cn B now d f a F _ _ o x.sum n.w w.heap.size (AI.below zN.o (P.trans (n.h.mono P.size))) (by have:=n.h.size;omega) Yv;have z:=Yw hV;have v:=Yw Z
              have yH:IntKind.i64.wrap (now+100000)=now+100000:=Fq Yv Yv;clear hV Z c;have c:=P;by_cases hrg:1<=x.H/\x.H<=d
              .rw[decide_eq_true hrg]at z;by_cases hless:p'.H<x.H
               .have zK:decide (x.H<=p'.H)=false:=Yt
                rcases BV o x.sum with⟨D,zE⟩|⟨i2,u,D,hu,zF⟩
                .rw[D]at v;refine Aj Ys Ys ?_
                 repeat (go_big_quiet_step (first|exact Ag.calls (z.o _)|exact Ag.calls (v.o _)))
                 refine wpQuiet_nil ?_;intro n;have m:=Yw (c.trans (n.h.mono g));clear c;go_wp2;go_ret;exact Aq.no (fun h=>zE (h.br _ _ C.o).sum) m.o
                .rw[D]at v;have zH:decide ((i2:Int)<0)=false:=Yu
                 by_cases ht1:now<x.V
                 .have zI:decide (x.V<=now)=false:=Yt
                  by_cases ht2:x.V<=now+100000
                  .have zJ:decide (now+100000<x.V)=false:=Yt
                   have HA:Hid (∀(t:Nat) y,t<(j+1)+1->r[t]?=some y->EM now d o r t y):=by
                    intro t y hj Q;rcases Nat.lt_or_ge t ((j+1))with Y|Y
                    .exact s.o t y Y Q
                    .obtain rfl:t=(j+1):=Yv
                     rw[C.o]at Q;cases Q;exact⟨hrg.1,hrg.2,fun j2 p2 h zM=>by cases h;rw[HP.o]at zM;cases zM;exact hless,⟨u,Zs hu,zF⟩,ht1,ht2⟩
                   refine Aj Ys Ys ?_
                   repeat (go_big_quiet_step (first|exact Ag.calls (z.o _)|exact Ag.calls (v.o _)))
                   refine wpQuiet_nil ?_;intro n;have m:=Yw (c.trans (n.h.mono g));have zA:=Ah.af V.o n.h O;clear c P;go_wp2;exact⟨⟨(j+1)+1,Yv,Yo,m.o,zA,HA⟩,by simp[intOf];omega⟩
                  .have zJ:decide (now+100000<x.V)=true:=Yt
                   refine Aj Ys Ys ?_
                   repeat (go_big_quiet_step (first|exact Ag.calls (z.o _)|exact Ag.calls (v.o _)))
                   refine wpQuiet_nil ?_;intro n;have m:=Yw (c.trans (n.h.mono g));clear c;go_wp2;go_ret;exact Aq.no (fun h=>by have:=(h.br _ _ C.o).gh;omega) m.o
                 .have zI:decide (x.V<=now)=true:=Yt
                  refine Aj Ys Ys ?_
                  repeat (go_big_quiet_step (first|exact Ag.calls (z.o _)|exact Ag.calls (v.o _)))
                  refine wpQuiet_nil ?_;intro n;have m:=Yw (c.trans (n.h.mono g));clear c;go_wp2;go_ret;exact Aq.no (fun h=>by have:=(h.br _ _ C.o).gg;omega) m.o
               .have zK:decide (x.H<=p'.H)=true:=Yt
                refine Aj Ys Ys ?_
                repeat (go_big_quiet_step (first|exact Ag.calls (z.o _)|exact Ag.calls (v.o _)))
                refine wpQuiet_nil ?_;intro n;have m:=Yw (c.trans (n.h.mono g));clear c;go_wp2;go_ret;exact Aq.no (fun h=>by have:=(h.br _ _ C.o).up j p' rfl HP.o;omega) m.o
              .rw[decide_eq_false hrg]at z;refine Aj Ys Ys ?_
               repeat (go_big_quiet_step (first|exact Ag.calls (z.o _)|exact Ag.calls (v.o _)))
               refine wpQuiet_nil ?_;intro n;have m:=Yw (c.trans (n.h.mono g));clear c;go_wp2;go_ret;exact Aq.no (fun h=>hrg ⟨(h.br _ _ C.o).lo,(h.br _ _ C.o).hi⟩) m.o
            .go_wp2;go_ret;exact Aq.yes ⟨hN,hn1,hn2,hn3,zR.o.1,zR.o.2.1,zR.o.2.2,zO.o,fun i x hx=>s.o i x (by have:=(Zw hx).1;omega) hx⟩ c
       .have zX:decide ((200:Int)<(r.length:Int))=true:=Yt
        clear hx;go_wp2;go_ret;exact Aq.no (fun h=>hn3 h.nl) R
      .have zW:decide ((100:Int)<(q.length:Int))=true:=Yt
       clear hx;go_wp2;go_ret;exact Aq.no (fun h=>hn2 h.np) R
     .have zV:decide ((600:Int)<(o.length:Int))=true:=Yt
      clear hx;go_wp2;go_ret;exact Aq.no (fun h=>hn1 h.nth) R
    .rw[decide_eq_false h3];go_wp2;go_ret;exact Aq.no (fun h=>h3 ⟨h.ca.ak,h.ca.dx⟩) R
   .rw[decide_eq_false h2];go_wp2;go_ret;exact Aq.no (fun h=>h2 ⟨h.ca.bk,h.ca.fg⟩) R
  .rw[decide_eq_false h1];go_wp2;go_ret;exact Aq.no (fun h=>h1 ⟨h.ca.ci,h.ca.gd⟩) R
 .rw[decide_eq_false h0];go_wp2;go_ret;exact Aq.no (fun h=>h0 ⟨h.ca.gu,h.ca.ib⟩) R
section
def EF(wd:Int)(k:Kd):Int:=1+k.B.length *wd+k.E.size
def BM(wd:Int)(ks:List Kd):Int:=(ks.map (EF wd)).sum
theorem Gg{a:List Kd}(b:a[k]?=some x):BM wd (a.take (k+1))=BM wd (a.take k)+EF wd x:=by unfold BM;rw[Jo b,List.map_append,List.sum_append];simp
theorem Iu(h:Ay x.E x.B wd=true):1<=EF wd x/\EF wd x<=2241/\0<=(x.B.length:Int) *wd/\(x.B.length:Int) *wd<=240:=by have h:=AX h;have b:=h.lo;have a:=h.hi;have c:=h.B;have d:=h.E;have e:0<=(x.B.length:Int) *wd:=Int.mul_nonneg Yv Yv;have f:(x.B.length:Int) *wd<=30 *8:=Int.mul_le_mul Yv a Yv Yv;unfold EF;omega
theorem Iv{a:List Kd}(h:∀(i:Nat) k,a[i]?=some k->Ay k.E k.B wd=true):∀k,k<=a.length->0<=BM wd (a.take k)/\BM wd (a.take k)<=2241 *k
 |0,_=>by simp[BM]
 |k+1,hk=>by have c:=Iv h k Yv;have b:a[k]?=some (a[k]'(by omega)):=Zv Yv;have:=Iu (h k _ b);rw[Gg b];omega
theorem Kb(h:Ay x.E x.B wd=true):((AB x.E x.B wd).size:Int)=EF wd x:=by
 have a:=AX h;have b:=a.bn;have c:=a.lo;unfold AB;rw[if_pos h];have:(ByteArray.mk (BG x.E x.B).toArray).size=1+(bn x.B+x.E.size):=by show(BG x.E x.B).toArray.size=_;simp only[List.size_toArray,BG,List.length_cons,List.length_append,Dh,Array.length_toList];show _+x.E.size+1=_;omega
 rw[this,b];unfold EF;have e:((x.B.length *wd.toNat:Nat):Int)=(x.B.length:Int) *wd:=by rw[Int.natCast_mul,Int.toNat_of_nonneg Yv]
 omega
theorem Qp(wd now f d:Int)(a:Zk)(l:Nat)(P L:Value)(c:List Kd)(w:Zh)(g:AI w w.heap.size a c)(S:c.length<=600)(h:∀(i:Nat) k,c[i]?=some k->Ay k.E k.B wd=true):
 Calls prog 130 #[.agg #[Zg wd,Zg now,Zg f,Zg d,.slice a c.length l,P,L]] w fun e F=>e=.returned (Zg (BM wd c))/\Zz w F:=by
 have s:Below w.heap.size w (w.alloc (.cells #[Zg wd,Zg now,Zg f,Zg d,.slice a c.length l,P,L] 27)):=Zy;go_enter func130,ntmps130;go_wp2
 go_loopw [3,4] (fun n i wr=>∃(k m:Nat),k<=c.length/\i=Zg k/\n=Zg (BM wd (c.take k))/\wr=(w.alloc (.cells #[Zg wd,Zg now,Zg f,Zg d,.slice a c.length l,P,L] 27)).drewN m) (fun _ i _=>c.length -(intOf i).toNat)
 case atStart=>exact⟨0,0,Nat.zero_le _,rfl,by simp[BM],rfl⟩
 case round=>
  obtain⟨k,m,C,rfl,rfl,rfl⟩:=hrel;by_cases hlt:k<c.length
  .obtain⟨b,off,B,Q,r⟩:=g.at hlt;subst B;have j:Hid (c[k]?=some c[k]):=Zv hlt;obtain⟨I,J,c2,T,U,c3,_⟩:=r k _ j.o;have t:=Iu (h k _ j.o);have u:=Iv h k C;have v:=Yw (Gg (wd:=wd) j.o);have G:(0:Int)<=(k:Int):=Yv
   have H:(k:Int)<(c.length:Int):=Yv
   obtain⟨o,q,y,z⟩:=t;obtain⟨D,E⟩:=u;have A:BM wd (c.take k)<=1344600:=Yv
   generalize c[k]=x at *
   unfold EF at o q;generalize hRK:BM wd (c.take k)=R at *
   have K:IntKind.i64.wrap (R+1)=R+1:=Fq Yv Yv;have M:IntKind.i64.wrap ((x.B.length:Int) *wd)=(x.B.length:Int) *wd:=Fq Yv Yv;have N:IntKind.i64.wrap (R+1+(x.B.length:Int) *wd)=R+1+(x.B.length:Int) *wd:=Fq Yv Yv;have O:IntKind.i64.wrap (R+1+(x.B.length:Int) *wd+x.E.size)=R+1+(x.B.length:Int) *wd+x.E.size:=Fq Yv Yv
   clear r g h o q y z D E A hRK;go_wp2;go_quiet (fail);go_wp2;refine⟨⟨k+1,_,Yv,Yo,?_,rfl⟩,by simp[intOf];omega⟩;rw[v.o];unfold EF;congr 1;omega
  .go_wp2;go_ret;exact⟨JH (by rw[Zt Yv]),AM s _⟩
open Classical in
noncomputable def roomOf (wd now given births:Int) (ks:List Kd) (ps:List Pd) (ls:List Ld):Int:=if Bq wd now given births ks ps ls then BM wd ks else 0
theorem RI(wd now d c:Int)(a p l:Zk)(o s q:Nat)(f:List Kd)(t:List Pd)(r:List Ld)(w:Zh)(m:AI w w.heap.size a f)(hn:f.length<=600)(N:∀(i:Nat) k,f[i]?=some k->Ay k.E k.B wd=true)(M:∀k∈f,k.E.size<=maxLen)(L:∀k∈f,k.B.length<=1048576):
 Calls prog 27 #[.agg (Yj wd now d c a f.length o p t.length s l r.length q)] w fun e w'=>e=.returned (Zg (BM wd f))/\Zz w w':=by
 have K:Below w.heap.size w (w.alloc (.cells (Yj wd now d c a f.length o p t.length s l r.length q) 27)):=Zy;have O:=Ah.new w wd now d c (.slice a f.length o) (.slice p t.length s) (.slice l r.length q) 27;have u:=Yw N;have zB:=Yw m;have I:=Yw (Zn M L);go_enter func27,ntmps27;have J:=Yw O;obtain⟨A,B,C,D,E,F,G,Z⟩:=O;clear m N M L;go_wp2
 go_loopw [3,9] (fun n i wr=>∃k:Nat,k<=f.length/\i=Zg k/\n=Zg (BM wd (f.take k))/\Zz w wr/\Hid (Ah wr w.heap.size wd now d c (.slice a f.length o) (.slice p t.length s) (.slice l r.length q))) (fun _ i _=>f.length -(intOf i).toNat)
 case atStart=>exact⟨0,Nat.zero_le _,rfl,by simp[BM],K,J⟩
 case round=>
  clear A B C D E F G Z J K;obtain⟨k,zF,rfl,rfl,g,P⟩:=hrel;obtain⟨A,B,C,D,E,F,G,Z⟩:=P.o;by_cases hlt:k<f.length
  .obtain⟨b,off,ha,hb,S⟩:=(AI.below zB.o g).at hlt;subst ha;have z:Hid (f[k]?=some f[k]):=Zv hlt;obtain⟨c0,c1,c2,W,X,c3,T⟩:=S k _ z.o;have h:=List.getElem_mem hlt;have U:=I.o.1 _ h;have V:=I.o.2 _ h;have HL:=Yw (Kb (u.o k _ z.o));obtain⟨b1,b2,_,_⟩:=Iu (u.o k _ z.o);obtain⟨r1,r2⟩:=Iv u.o k zF;have zC:=Yw (Gg (wd:=wd) z.o);have zH:b<wr.heap.size:=Yv
   have hR:BM wd (f.take k)<=1344600:=Yv
   generalize f[k]=x at *
   generalize EF wd x=RX at *
   generalize BM wd (f.take k)=R at *
   have v:Below wr.heap.size wr (wr.alloc (Obj.cells #[Value.string x.sum,Value.int IntKind.i64 x.born,Value.string x.E,Value.slice W x.B.length X] 37)):=Zy;have Q:=Yw (IW x.E W X x.B wd _ ((T.mono g.size).M v) V U);have j:=Yw (Zn g (Zn v P.o));have H:=g.size;clear S T h r2 v g P U V;go_wp2_with fail;refine Calls.mono Q.o ?_;rintro e Y ⟨rfl,y⟩;have zG:((AB x.E x.B wd).size:Int)=RX:=HL.o
   have zA:Hid (Zz w Y):=(j.o.1.trans (j.o.2.1.mono H)).trans (y.mono Yt);have zE:Hid (Ah Y w.heap.size wd now d c (.slice (some ⟨b,off,none⟩) f.length o) (.slice p t.length s) (.slice l r.length q)):=Ah.below (Ah.below j.o.2.2 j.o.2.1) y;clear y j Q A B C D E F G c0 c1 c2 c3;go_wp2;refine⟨⟨k+1,Yv,Yo,?_,zA.o,zE⟩,by simp[intOf];omega⟩;rw[zC.o]
  .clear A B C D E F G;go_wp2;go_ret;exact⟨JH (by rw[Zt Yv]),g⟩
theorem MF(m now c b:Int)(a p l:Zk)(o r q:Nat)(d:List Kd)(g:List Pd)(f:List Ld)(w:Zh)(j:AZ w w.heap.size a p l d g f)(B:Fm d)(E:FP g)(D:Hx f)(A:Fo d g f)(y:∀k∈d,(Lit.int .i64 k.born).wf=true):
 Calls prog 8 #[.agg (Yj m now c b a d.length o p g.length r l f.length q)] w fun e K=>e=.returned (Zg (roomOf m now c b d g f))/\Zz w K:=by
 have v:Below w.heap.size w (w.alloc (.cells (Yj m now c b a d.length o p g.length r l f.length q) 27)):=Zy;have F:=Ah.new w m now c b (.slice a d.length o) (.slice p g.length r) (.slice l f.length q) 27;go_enter func8,ntmps8;go_wp2_with fail;refine(De m now c b a p l o r q d g f _ (j.M v) B E D A y).mono ?_;rintro e L ⟨I,rfl,x,t⟩;have n:=v.trans (t.mono Yu);have z:=F.below t;have s:=Yw x
 clear t F x y;cases I with
 |false=>clear z;go_wp2;go_ret;exact⟨JH (by unfold roomOf;rw[if_neg (fun h=>by have:=s.o.2 h;cases this)]),n⟩
 |true=>have u:Bq m now c b d g f:=s.o.1 rfl;have H:=Yw u;have J:=u.nth;obtain⟨M,N,O,P,Q,R,S,T⟩:=z;have C:=Yw (RI m now c b a p l o r q d g f L (j.M n).k J (fun i k h=>(u.th i k h).ok) B.E A.r);clear u s j B E A D;go_wp2_with fail;refine Calls.mono C.o ?_;rintro e U ⟨rfl,G⟩;clear M N O P Q R S T C;go_wp2;go_ret;exact⟨JH (by unfold roomOf;rw[if_pos H.o]),n.trans (G.mono n.size)⟩
end
section
open Go.RowKit
def RJ:Obj->Bool
 |.cells _ t _=> !(t==9||t==52||t==58||t==61)
 |_=>true
structure DL (B:Nat) (W W':Zh):Prop where
 size:W.heap.size<=W'.heap.size
 same:∀b o,B<=b->W.heap[b]?=some o->RJ o=true->W'.heap[b]?=some o
theorem DL.refl(B:Nat)(W:Zh):DL B W W:=⟨Zx,fun _ _ _ h _=>h⟩
theorem DL.trans{Y:Zh}(h:DL B X Y)(k:DL B Y Z):DL B X Z:=⟨Zm h.size k.size,fun b o a d c=>k.same b o a (h.same b o a d c) c⟩
theorem DL.mono{c:Zh}(h:DL B W c)(d:B<=a):DL a W c:=⟨h.size,fun b o e=>h.same b o Yv⟩
def DY(B:Nat)(J:Nat->Zh->Prop):Prop:=
 ∀k W W' row,J k W->W.grownBy W' row->(∀r,row=some r->B<=r/\∃o,W.heap[r]?=some o/\RJ o=true)->J k W'
theorem DY.mono{J:Nat->Zh->Prop}(h:DY B J)(d:B<=a):DY a J:=
 fun k W c row g f b=>h k W c row g f (fun r e=>⟨Zm d (b r e).1,(b r e).2⟩)
theorem DY.alloc{J:Nat->Zh->Prop}(h:DY B J)(o:Obj)(b:J k W):J k (W.alloc o):=
 h k W _ none b ⟨rfl,rfl,rfl,Yu,fun i a _=>Below.heap_alloc W o i a⟩ (fun r e=>by cases e)
def NL(P:Program)(gf:Nat)(ar:Nat->Array Value)(xs:Zl)(n0:Nat)(w:Zh):Prop:=
 ∀(l:Nat) (J Jx:Nat->Zh->Prop) (W:Zh),Zz w W->DY W.heap.size J->DY W.heap.size Jx->
  (∀k W1 s,xs[k]?=some s->J k W1->W.heap.size<=W1.heap.size->∀m,YieldAt Fence.wide m P l #[.string s] W1 fun e W'=>
    DL W.heap.size W1 W'/\((e=.returned (.bool true)/\J (k+1) W'/\Below n0 W1 W')\/(e=.returned (.bool false)/\Jx (k+1) W')))->
  J 0 W->∀m,CallsIn Fence.wide m P gf (ar l) W fun e W'=>(∃v,e=.returned v)/\(J xs.length W'\/∃k,Jx k W')
end
section
open Go.RowKit
attribute [local go_sem] Oper.semAt_some
end
section
open Go.RowKit
attribute [local go_sem] Oper.semAt_some
theorem DY.and{J K:Nat->Zh->Prop}(h:DY B J)(k:DY B K):DY B (fun n W=>J n W/\K n W):=
 fun n W a row c b d=>⟨h n W a row c.1 b d,k n W a row c.2 b d⟩
end
theorem DL.below{a:Zh}(h:Zz V a):DL B V a:=⟨h.size,fun b _ _ c _=>(h.block b (Array.getElem?_eq_some_iff.1 c).1).trans c⟩
section
attribute [local go_sem] Oper.semAt_some
end
def WM(wd:Int)(xs:Zl)(w:Zh)(e:Ending)(w':Zh):Prop:=
 ∃(x:An) (T P L:Value) (rs:Zj),Lb wd xs x/\e=.returned (.agg #[Zg x.code,Zg x.wd,Zg x.D,Zg x.G,Zg x.C,T,P,L,.string x.sm,Zg x.le,.string x.a,.string x.b])/\AY w' w.heap.size T P L rs x.ks x.ps x.ls/\Zz w w'
section
attribute [local go_sem] Oper.semAt_some
end
theorem Um{d e i j k l m n a c:Value}(h:Aa w b [d,e,f,g,i,j,k,l,m,n,a,c]):(w.cell? (Zd b 0)=some d/\w.frozen? ⟨b,0,none⟩=false)/\(w.cell? (Zd b 1)=some e/\w.frozen? ⟨b,1,none⟩=false)/\(w.cell? (Zd b 2)=some f/\w.frozen? ⟨b,2,none⟩=false)/\(w.cell? (Zd b 3)=some g/\w.frozen? ⟨b,3,none⟩=false)/\(w.cell? (Zd b 4)=some i/\w.frozen? ⟨b,4,none⟩=false)/\(w.cell? (Zd b 5)=some j/\w.frozen? ⟨b,5,none⟩=false)/\(w.cell? (Zd b 6)=some k/\w.frozen? ⟨b,6,none⟩=false)/\(w.cell? (Zd b 7)=some l/\w.frozen? ⟨b,7,none⟩=false)/\(w.cell? (Zd b 8)=some m/\w.frozen? ⟨b,8,none⟩=false)/\(w.cell? (Zd b 9)=some n/\w.frozen? ⟨b,9,none⟩=false)/\(w.cell? (Zd b 10)=some a/\w.frozen? ⟨b,10,none⟩=false)/\w.cell? (Zd b 11)=some c/\w.frozen? ⟨b,11,none⟩=false:=
 ⟨h 0 _ rfl,h 1 _ rfl,h 2 _ rfl,h 3 _ rfl,h 4 _ rfl,h 5 _ rfl,h 6 _ rfl,h 7 _ rfl,h 8 _ rfl,h 9 _ rfl,h 10 _ rfl,h 11 _ rfl⟩
theorem c6{a c d e:Value}(h:Aa w b [a,c,d,e,f,g]):(w.cell? (Zd b 0)=some a/\w.frozen? ⟨b,0,none⟩=false)/\(w.cell? (Zd b 1)=some c/\w.frozen? ⟨b,1,none⟩=false)/\(w.cell? (Zd b 2)=some d/\w.frozen? ⟨b,2,none⟩=false)/\(w.cell? (Zd b 3)=some e/\w.frozen? ⟨b,3,none⟩=false)/\(w.cell? (Zd b 4)=some f/\w.frozen? ⟨b,4,none⟩=false)/\w.cell? (Zd b 5)=some g/\w.frozen? ⟨b,5,none⟩=false:=
 ⟨h 0 _ rfl,h 1 _ rfl,h 2 _ rfl,h 3 _ rfl,h 4 _ rfl,h 5 _ rfl⟩
def WV(n:Nat)(w:Zh)(ta pa la:Zk)(ks:List Kd)(ps:List Pd)(ls:List Ld):Prop:=∀V w',(∀b∈V,b<n)->Tn V w w'->AZ w' w'.heap.size ta pa la ks ps ls
theorem AY.rdS{g f e:Zk}{s q o:Nat}{r:Zj}{b:List Kd}{d:List Pd}{c:List Ld}(h:AY w a (.slice g b.length s) (.slice f d.length q) (.slice e c.length o) r b d c):WV a w g f e b d c:=fun V t l n=>by obtain⟨_,_,_,_,_,_,i,j,k,m⟩:=(h.I n l).rows;cases i;cases j;cases k;exact m
theorem AY.get{f e d:Zk}{i g:Nat}{j:Zj}{ks:List Kd}{c:List Pd}{b:List Ld}(h:AY w a (.slice f ks.length k) (.slice e c.length i) (.slice d b.length g) j ks c b):AZ w w.heap.size f e d ks c b:=
 h.rdS [] w Yu (Tn.of (Below.refl _ _))
structure Po (x:An):Prop where
 ks:x.ks.length<=600
 B:∀k∈x.ks,k.B.length<=30
 ps:x.ps.length<=100
 ls:x.ls.length<=200
theorem Po.fit{x:An}(h:Po x):Fo x.ks x.ps x.ls:=
 ⟨by have:=h.ks;omega,fun k a=>by have:=h.B k a;omega,by have:=h.ps;omega,by have:=h.ls;omega⟩
theorem Aa.fj(a c d:Zj)(h:Aa w B (a++(c++d))):w.rangeAt B a.length c:=fun j v b=>by refine(h (a.length+j) v ?_).1;rw[List.getElem?_append_right Yv,Nat.add_sub_cancel_left,List.getElem?_append_left (Zw b).1];exact b
def v0:Vd:=⟨0,0,[],[],0,0,0,0,[],[],[],0,[],[],0,0,0⟩
def Qq(wd lim:Int)(ss tt:Zl)(r:Rs):Vd:=⟨wd,lim,ss,tt,wd,r.D,r.G,r.C,r.ks,r.ps,r.ls,0,[],[],0,0,0⟩
def FM(wd lim:Int)(ss tt:Zl)(c:Int)(v:Vd):Prop:=
 (¬((1<=wd/\wd<=8)/\(0<=lim/\lim<=1000000)/\Dm ss tt=true)/\c=1/\v=v0)\/
 (((1<=wd/\wd<=8)/\(0<=lim/\lim<=1000000)/\Dm ss tt=true)/\(((∃n,Fe wd (ss++tt) n)/\c=2/\v=v0)\/(∃r,CJ wd r0 (ss++tt) r/\c=0/\v=Qq wd lim ss tt r)))
theorem FM.co{a:Int}{d:Zl}{b:Int}{f:Vd}(h:FM i a d e c v)(k:FM i a d e b f):c=b/\v=f:=by
 rcases h with⟨j,rfl,rfl⟩|⟨g,h⟩<;>rcases k with⟨k1,rfl,rfl⟩|⟨g',k⟩
 .exact⟨rfl,rfl⟩
 .exact absurd g' j
 .exact absurd g k1
 .rcases h with⟨⟨n,h⟩,rfl,rfl⟩|⟨r,h,rfl,rfl⟩<;>rcases k with⟨⟨m,k⟩,rfl,rfl⟩|⟨q,k,rfl,rfl⟩
  .exact⟨rfl,rfl⟩
  .exact absurd k (h.not g.1.1 g.1.2)
  .exact absurd h (k.not g.1.1 g.1.2)
  .obtain rfl:=h.co k;exact⟨rfl,rfl⟩
theorem AD.nil(w:Zh)(a:Nat):AD w a Zb Zb Zb Zb Zb Zb Zb [] v0:=
 ⟨Ao.nil _ _,Ao.nil _ _,⟨rfl,⟨rfl,.inl ⟨rfl,rfl⟩⟩,(fun i k r h=>by cases i<;>cases h),⟨rfl,.inl ⟨rfl,rfl⟩⟩,⟨rfl,.inl ⟨rfl,rfl⟩⟩,List.nodup_nil⟩,Ao.nil _ _,Ao.nil _ _,List.nodup_nil⟩
def WN(wd lim:Int)(ss tt:Zl)(w:Zh)(e:Ending)(w':Zh):Prop:=
 ∃(c:Int) (v:Vd) (S U T P L Q M:Value) (rs:Zj),FM wd lim ss tt c v/\e=.returned (.tuple #[.agg #[Zg v.wd,Zg v.lim,S,U,Zg v.O,Zg v.D,Zg v.G,Zg v.C,T,P,L,Zg v.K,Q,M,Zg v.R,Zg v.S,Zg v.ro],Zg c])/\AD w' w.heap.size S U T P L Q M rs v/\Zz w w'
structure VE (ss A:Zl):Prop where
 s:ss.length<=1048576
 t:A.length<=1048576
 ss:∀s∈ss,s.size<=1048576
 A:∀s∈A,s.size<=1048576
theorem Ao.ft{c:Nat}{a:Zk}{d:Zl}(h:Ao w b (.slice a n c) d):Ab w w.heap.size a d:=by obtain⟨g,i,e,f⟩:=h.row;cases e;exact f
section
attribute [local go_sem] Oper.semAt_some
theorem NL.below{P:Program}{a:Nat->Array Value}{f:Zl}{e:Zh}(h:NL P b a f d w)(c:Zz w e):NL P b a f d e:=
 fun l J g W i=>h l J g W (c.trans (i.mono c.size))
end
def BE(ss tt:Zl)(af:Int):Zl:=if Dm ss tt then ss++tt.take (min (max af 0) tt.length).toNat else []
theorem FN{a:Zh}{L:Zl}{v:Value}(b:Zz w a)(c:a.ownsRow (w.heap.size+2) 9 1 v L.length (L.map Value.string)):
 ((a.setCell (Zd (w.heap.size+1) 0) v).setCell (Zd (w.heap.size+1) 1) Zb).ownsRow w.heap.size 9 1 v L.length (L.map Value.string)/\
   Zz w ((a.setCell (Zd (w.heap.size+1) 0) v).setCell (Zd (w.heap.size+1) 1) Zb):=
 ⟨(ownsRow_setCell_below (ownsRow_setCell_below c Yu _) Yu _).mono Yv,(b.setCell (p:=⟨w.heap.size+1,0,none⟩) Yu _).setCell (p:=⟨w.heap.size+1,1,none⟩) Yu _⟩
theorem Le:Fw v0:=⟨by simp[v0],by simp[v0],by simp[v0],by simp[v0],⟨by simp[v0],by simp[v0],by simp[v0],by simp[v0]⟩,⟨by simp[v0],by simp[v0]⟩,by simp[v0,EZ]⟩
theorem Lf{a b:Zl}{k:Int}(e:∀s∈a,s.size<=1048576)(f:∀s∈b,s.size<=1048576):(BE a b k).length<=1048576/\∀s∈BE a b k,s.size<=1048576:=by
 unfold BE;split
 .next h=>
  have c:=DV h;rw[List.length_append]at c;refine⟨?_,fun s d=> ?_⟩
  .rw[List.length_append,List.length_take];omega
  .rcases List.mem_append.1 d with h|h
   .exact e s h
   .exact f s (List.mem_of_mem_take h)
 .exact⟨Yu,Yu⟩
theorem UO{u:Value}{l:Zl}(h:w.ownsRow n 9 1 u l.length (l.map Value.string)):∃a c,u=.slice a l.length c/\Ab w w.heap.size a l/\(a=none->l.length=0/\c=0):=by
 obtain⟨a,c,rfl,b⟩:=(Ao.own h).row;refine⟨a,c,rfl,b,fun e=> ?_⟩;subst e;rcases h.2 with⟨e,_⟩|⟨g,cap,d,e,_⟩
 .injection e with _ e2 e3;exact⟨e2,e3⟩
 .injection e with e1;cases e1
theorem FM.fit{m:Int}{f:Zl}(h:FM m i e f c v)(a:VE e f):Fw v:=by
 rcases h with⟨_,_,rfl⟩|⟨g,⟨_,_,rfl⟩|⟨r,l,_,rfl⟩⟩
 .exact Le
 .exact Le
 .have b:=l.ok (Ff g.1.1 g.1.2);have n:=b.cf.len;have o:=b.np;have q:=b.nl;have d:=b.cu;have s:=KD d;exact⟨a.s,a.t,a.ss,a.A,⟨by show r.ks.length<=_;omega,fun k j=>by have:=d k j;omega,by show r.ps.length<=_;omega,by show r.ls.length<=_;omega⟩,⟨by simp[Qq],by simp[Qq]⟩,by show EZ r.ks<=_;omega⟩
structure Ed where
 kd:Int
 s:Zi
 nm:Zi
 H:Int
 tx:Zi
 rf:Zl
def Ed.ok(e:Ed)(wd:Int):Bool:=Ci e.kd e.s e.nm e.H e.tx e.rf wd
def Ed.cj(e:Ed)(wd:Int):Zi:=CI e.kd e.s e.nm e.H e.tx e.rf wd
def Ed.no(e:Ed)(v:Vd)(c:Int)(a b:Zi):Prop:=FW v.wd v.D v.G v.C v.ks v.ps v.ls e.kd e.s e.nm e.H e.tx e.rf c a b
def Ed.yes(e:Ed)(v:Vd)(r:Rs):Prop:=Ep v.wd v.D v.G v.C v.ks v.ps v.ls e.kd e.s e.nm e.H e.tx e.rf r
def Ed.dq(e:Ed)(v:Vd)(r:Rs):Bool:=decide (e.kd=1)&&decide (v.lim<BM v.wd r.ks)
def Ed.jc(e:Ed)(v:Vd)(r:Rs):Prop:=e.dq v r=true
def Ed.held(e:Ed)(r:Rs):Zi:=if e.kd=1 then r.sm else e.s
structure Dd where
 c:Int
 v:Vd
 s:Zi
 n:Int
 a:Zi
 b:Zi
def EA(c:Int)(v:Vd)(a b:Zi):Dd:=⟨c,v,⟨#[]⟩,0,a,b⟩
noncomputable def doV (v:Vd) (e:Ed) (r:Rs):Vd:={v with A:=v.A++[e.cj v.wd],D:=r.D,G:=r.G,C:=r.C,ks:=r.ks,ps:=r.ps,ls:=r.ls,F:=shQ v.K r.ks v.F v.ms (e.held r)}
noncomputable def dyes (v:Vd) (e:Ed) (r:Rs):Dd:=⟨0,doV v e r,r.sm,r.le,⟨#[]⟩,⟨#[]⟩⟩
def Kc(v:Vd)(e:Ed)(c:Int)(a b:Zi):Prop:=
 (e.ok v.wd=false/\c=1/\a=⟨#[]⟩/\b=⟨#[]⟩)\/(e.ok v.wd=true/\(e.no v c a b\/(a=⟨#[]⟩/\b=⟨#[]⟩/\∃r,e.yes v r/\((e.jc v r/\c=8)\/(¬e.jc v r/\v.ss.length+v.A.length=4000/\c=9)))))
def NM(v:Vd)(e:Ed)(r:Rs):Prop:=e.ok v.wd=true/\e.yes v r/\¬e.jc v r/\¬v.ss.length+v.A.length=4000
def Gx(v:Vd)(e:Ed)(d:Dd):Prop:=(¬Cp v/\d=EA 1 v0 ⟨#[]⟩ ⟨#[]⟩)\/(Cp v/\((∃c a b,Kc v e c a b/\d=EA c v a b)\/∃r,NM v e r/\d=dyes v e r))
theorem Dw.dm(h:Dw v r):Gu v.wd v.D v.G v.C v.ks v.ps v.ls:=by have a:Gu v.wd r.D r.G r.C r.ks r.ps r.ls:=h.run.ok (Ff h.wd.1 h.wd.2);obtain⟨⟨_,b,c,d⟩,e,f,g⟩:=h.same;rw[b,c,d,e,f,g]at a;exact a
theorem Kc.code{e:Ed}{a b:Zi}(h:Kc v e c a b):c≠0:=by
 rcases h with⟨_,h,_⟩|⟨_,h|⟨_,_,r,_,⟨_,h⟩|⟨_,_,h⟩⟩⟩
 .omega
 .have:=FW.code h;omega
 .omega
 .omega
theorem Kc.co(m:Dw v r){e:Ed}{j:Int}{a b g i:Zi}(h:Kc v e c a b)(k:Kc v e j g i):c=j/\a=g/\b=i:=by
 have f:=m.dm.cf.nd;rcases h with⟨d,rfl,rfl,rfl⟩|⟨d,h|⟨rfl,rfl,n,l,h⟩⟩<;>rcases k with⟨k1,rfl,rfl,rfl⟩|⟨k1,k|⟨rfl,rfl,r2,ky,k⟩⟩
 .exact⟨rfl,rfl,rfl⟩
 .rw[d]at k1;cases k1
 .rw[d]at k1;cases k1
 .rw[d]at k1;cases k1
 .exact FW.co f h k
 .exact(FW.not f h ky).elim
 .rw[d]at k1;cases k1
 .exact(FW.not f k l).elim
 .obtain rfl:=Ep.co l ky;rcases h with⟨h,rfl⟩|⟨h,_,rfl⟩<;>rcases k with⟨k,rfl⟩|⟨k,_,rfl⟩
  .exact⟨rfl,rfl,rfl⟩
  .exact absurd h k
  .exact absurd k h
  .exact⟨rfl,rfl,rfl⟩
theorem Kc.not(g:Dw v r){e:Ed}{a b:Zi}(h:Kc v e c a b){n:Rs}(k:NM v e n):False:=by
 obtain⟨d,f,l,m⟩:=k;rcases h with⟨i,_⟩|⟨_,h|⟨_,_,o,j,h⟩⟩
 .rw[i]at d;cases d
 .exact FW.not g.dm.cf.nd h f
 .obtain rfl:=Ep.co j f;rcases h with⟨h,_⟩|⟨_,h,_⟩
  .exact l h
  .exact m h
theorem Gx.co{e:Ed}{d g:Dd}(h:Gx v e d)(k:Gx v e g):d=g:=by
 rcases h with⟨h,rfl⟩|⟨⟨r,h⟩,i⟩<;>rcases k with⟨k,rfl⟩|⟨k,kk⟩
 .rfl
 .exact absurd k h
 .exact absurd ⟨r,h⟩ k
 .rcases i with⟨c,a,b,f,rfl⟩|⟨j,f,rfl⟩<;>rcases kk with⟨c',a',b',k1,rfl⟩|⟨r2,k1,rfl⟩
  .obtain⟨rfl,rfl,rfl⟩:=f.co h k1;rfl
  .exact(f.not h k1).elim
  .exact(k1.not h f).elim
  .rw[Ep.co f.2.1 k1.2.1]
theorem Ed.fe{e:Ed}{b:Int}(h:e.ok b=true):(e.cj b).size<=5000:=by
 obtain⟨_,_,p⟩:=EQ h;unfold Ed.cj CI;rw[if_pos (show Ci e.kd e.s e.nm e.H e.tx e.rf b=true from h)];show(DF e.kd.toNat e.s e.nm e.H e.tx e.rf).toArray.size<=5000;have d:=p.sum;have f:=p.name;have g:(if e.kd.toNat=1 then BG e.tx e.rf else []).length<=3000:=by
  split
  .next hk=>
   have a:=AX (p.dv hk);have c:=a.bp;have i:=a.E;rw[BG,List.length_cons,List.length_append,Dh];simp only[Array.length_toList];have j:e.tx.data.size=e.tx.size:=rfl;omega
  .simp
 rw[List.size_toArray];unfold DF CS;simp only[List.length_append,List.length_cons,List.length_nil,Array.length_toList];have a:e.s.data.size=e.s.size:=rfl;have c:e.nm.data.size=e.nm.size:=rfl;omega
theorem Gx.fit{e:Ed}{d:Dd}(h:Gx v e d)(i:Fw v):Fw d.v:=by
 rcases h with⟨_,rfl⟩|⟨⟨r,l⟩,⟨c,a,b,_,rfl⟩|⟨g,m,rfl⟩⟩
 .exact Le
 .exact i
 .have j:=l.dm.step m.1 m.2.1;have q:=j.cf.len;have t:=j.np;have u:=j.nl;have x:=KD j.cu;have n:=DV l.log;rw[List.length_append]at n;have y:=Ed.fe m.1;refine⟨i.s,?_,i.ss,?_,⟨by show g.ks.length<=_;omega,fun k o=>by have:=j.cu k o;omega,by show g.ps.length<=_;omega,by show g.ls.length<=_;omega⟩,⟨?_,i.r.m⟩,by show EZ g.ks<=_;omega⟩
  .show(v.A++[e.cj v.wd]).length<=_;rw[List.length_append,List.length_singleton];omega
  .intro s f;rcases List.mem_append.1 f with f|f
   .exact i.A s f
   .rw[List.mem_singleton]at f;subst f;omega
  .show(shQ v.K g.ks v.F v.ms (e.held g)).length<=_;have z:=l.round.dj.nq;unfold shQ;split
   .rw[List.length_append,List.length_singleton];omega
   .omega
def MG(wd:Int)(ks:List Kd):Prop:=∀k∈ks,Ay k.E k.B wd=true
theorem MG.step{g f b:Int}{m:List Kd}{v:List Pd}{u:List Ld}{l:Int}{s n:Zi}{num:Int}{d:Zi}{c:Zl}(h:MG g m)(o:Ci l s n num d c g=true)(i:Ep g now f b m v u l s n num d c r):MG g r.ks:=by
 obtain⟨D,E,e⟩:=EQ o;rcases i with⟨rfl,_,t,q,z,A,i,rfl⟩|⟨_,_,j,rfl⟩|⟨_,_,rfl⟩|⟨_,_,t,q,rfl⟩|⟨_,_,rfl⟩|⟨_,C,rfl⟩|⟨_,_,_,rfl⟩
 .rcases i with⟨_,_,_,_,rfl,rfl⟩|⟨y,x,B,rfl,rfl⟩
  .exact h
  .intro k a;rcases List.mem_append.1 (Ih.1 a)with a|a
   .exact h k a
   .rw[List.mem_singleton]at a;subst a;exact e.dv rfl
 .exact h
 .exact h
 .exact h
 .exact h
 .exact h
 .exact fun k a=>h k (List.filter_sublist.subset a)
theorem CJ.tok{a:Int}:∀{xs:Zl} {r r':Rs},CJ a r xs r'->MG a r.ks->MG a r'.ks
 |[],r,r',h,hr=>by obtain rfl:r'=r:=h;exact hr
 |x::xs,r,r',h,hr=>by obtain⟨d,b,c⟩:=h;exact CJ.tok c (hr.step (GQ b.1).1 b.2)
theorem Dw.tok(h:Dw v r):MG v.wd v.ks:=by have a:=h.run.tok (by intro k b;cases b);rwa[h.same.2.1]at a
def NN(w:Zh)(lo:Nat)(a:Zk)(ss:Zl):Prop:=
 ss=[]\/∃b off,a=some ⟨b,off,none⟩/\b<lo/\(∃cur,w.heap[b]?=some (.cells cur 9))/\∀i s,ss[i]?=some s->w.cell? (Zd b (off+i))=some (.string s)
theorem NN.below{f:Zh}{a:Zk}(h:NN w lo a e)(d:Below lo w f):NN f lo a e:=by
 rcases h with h|⟨b,off,j,c,⟨g,k⟩,m⟩
 .exact .inl h
 .exact .inr ⟨b,off,j,c,⟨g,(d.block b c).trans k⟩,fun i s l=>(d.cell (p:=⟨b,off+i,none⟩) c).trans (m i s l)⟩
theorem NN.row{a:Zk}{c:Zl}(h:NN w lo a c)(f:lo<=w.heap.size):Ab w w.heap.size a c:=by
 rcases h with h|⟨b,off,d,e,_,g⟩
 .exact .inl h
 .exact .inr ⟨b,off,d,Zr e f,g⟩
theorem Dr.zero{e:Nat}{O P L:Value}{o a:Int}{j:List Kd}{l:List Pd}{k:List Ld}(h:Dr V e d m O P L o now c a j l k)(H:e+4<=m):Dr V 0 d m O P L o now c a j l k:=by
 obtain⟨n,f,q,r,t⟩:=h.map;refine⟨h.box,⟨n,f,q,r,fun s A=> ?_⟩,h.ord.mono (Nat.zero_le _),h.du.mono (Nat.zero_le _),h.gi.mono (Nat.zero_le _),Nat.zero_le _,Nat.zero_le _,h.ap⟩;rcases t s A with h|⟨u,F,G,C,D,E,i⟩
 .exact .inl h
 .refine .inr ⟨u,F,G,C,D,E,?_⟩;rcases i with i|⟨b,off,v,x,B,g,y⟩
  .exact .inl i
  .refine .inr ⟨b,off,v,x,B,.inr ⟨Nat.zero_le _,?_⟩,y⟩;rcases g with⟨_,J,z,I⟩|⟨_,g⟩
   .simp[vB]at z;omega
   .exact g
theorem Mp.has{a:Int}(h:Mp 0 d m a r X)(b:∀k∈r.ks,(k.sum.size:Int)=a)(g:Z.heap[m]?=X.heap[m]?)(s:Zi):PF Z a m r.ks s:=by obtain⟨O,P,L,h⟩:=h;obtain⟨n,f,i,c,e⟩:=h.map;exact GF a m n f r.ks X X.heap.size s Z (c.same g) e.holds b
theorem Mp.I{f:Int}{c:Zh}{R:Nat}(h:Mp 0 d m f r X)(g:R≠d)(a:X.heap.size<=R\/∃b,X.heap[R]?=some (.cells b 134))(e:Tn [R] X c):Mp 0 d m f r c:=by
 rcases a with a|⟨b,a⟩
 .obtain⟨O,P,L,h⟩:=h;exact⟨O,P,L,h.below (e.below (Zx) (by simp;exact a))⟩
 .exact h.stays a (Nat.zero_le _) g e
end Go.Proofs.YtmjlkgpekcnacaaGreat
