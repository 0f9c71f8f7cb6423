import Derived.Test.YtcfjcdpkpiidkaaGreatX13
import Derived.Test.YtcfjcdpkpiidkaaGreatX14
import Derived.Test.YtcfjcdpkpiidkaaGreatX12
import Derived.Shelf.Slices.In.SortAlone
import Derived.Shelf.Slices.In.SortNone
import Derived.Sort.EveryDepth
import Derived.Sort.OwnSorted
set_option maxRecDepth 100000
set_option maxHeartbeats 16000000
namespace Go.Proofs.YtcfjcdpkpiidkaaGreat
open ChangeShapes WideShapes ChangeAt RowKit _root_.Go.Proofs.Tryz
variable{wd f g now:Int}{a c ks:List Kd}{k:Nat}{x:Kd}{y s:Zi}{d fr:Zl}{b:List Pd}{w:Zh}
theorem DT(B now d f:Int)(a p l:Zk)(F T S:Nat)(o:List Kd)(q:List Pd)(r:List Ld)(w:Zh)(U:AW w w.heap.size a p l o q r)(hk:Ez o)(hp:Gc q)(hf:EZ o q r):
 Calls prog 5 #[.agg (Yg B now d f a o.length F p q.length T l r.length S)] w fun e E=>Ao (AI B now d f o q r) w E e:=by
 have R:Below w.heap.size w (w.alloc (.cells (Yg B now d f a o.length F p q.length T l r.length S) 27)):=Zy;have hx:=Aq.new w B now d f (.slice a o.length F) (.slice p q.length T) (.slice l r.length S) 27;have yI:=hf.k;have yK:=hf.p;have yJ:=hf.l;have yD:=Yw U;have zN:=Yw U.k;have yC:=Yw U.p;have yB:=Yw U.l;clear U;go_enter func5,ntmps5;go_wp2_with fail;refine(FL B _).mono ?_;rintro e w1 ⟨rfl,rfl⟩
 by_cases h0:1<=B/\B<=8
 .rw[decide_eq_true h0];go_wp2_with fail;refine(Cc now 0 1000000000 _).mono ?_;rintro e w1 ⟨rfl,rfl⟩;by_cases h1:0<=now/\now<=1000000000
  .rw[decide_eq_true h1];go_wp2_with fail;refine(Cc d 0 1000000000 _).mono ?_;rintro e w1 ⟨rfl,rfl⟩;by_cases h2:0<=d/\d<=1000000000
   .rw[decide_eq_true h2];go_wp2_with fail;refine(Cc f 0 1000000000 _).mono ?_;rintro e w1 ⟨rfl,rfl⟩;by_cases h3:0<=f/\f<=1000000000
    .rw[decide_eq_true h3];have hN:MX B now d f:=⟨h0.1,h0.2,h1.1,h1.2,h2.1,h2.2,h3.1,h3.2⟩;by_cases hn1:o.length<=600
     .have zV:decide ((600:Int)<(o.length:Int))=false:=Yt
      by_cases hn2:q.length<=100
      .have zW:decide ((100:Int)<(q.length:Int))=false:=Yt
       by_cases hn3:r.length<=200
       .have zX:decide ((200:Int)<(r.length:Int))=false:=Yt
        go_wp2_with fail;refine(OQ B now d f a F _ _ o _ (AW.L yD.o R).k hk hn1 hf.r hN.gj hN.gn).mono ?_;rintro e w2 ⟨b2,rfl,zZ,zU⟩;have zS:=R.trans (zU.mono Yu);have yA:=hx.below zU;have zP:=Yw zZ;clear zU zZ R hx;cases b2 with
        |false=>clear yA;go_wp2;go_ret;exact Ao.no (fun h=>by have:=zP.o.2 ⟨h.th,h.born,h.ref⟩;cases this) zS
        |true=>
         have zR:=Yw (zP.o.1 rfl);clear zP;obtain⟨G,H,I,J,K,L,M,A⟩:=yA;have zY:=Yw (Za G (Za H (Za I (Za J (Za K (Za L (Za M A)))))));go_wp2
         go_loopw [3] (fun i wr=>∃k:Nat,k<=q.length/\i=Zg k/\Zz w wr/\Hid (Aq wr w.heap.size B now d f (.slice a o.length F) (.slice p q.length T) (.slice l r.length S))/\Hid (∀(j:Nat) x,j<k->q[j]?=some x->FK o q j x)) (fun i _=>q.length -(intOf i).toNat)
         case atStart=>exact⟨0,Nat.zero_le _,rfl,zS,zY,fun j x h=>by omega⟩
         case round=>
          clear G H I J K L M A zY zS;obtain⟨k,zC,rfl,c,HX,s⟩:=hrel;obtain⟨G,H,I,J,K,L,M,A⟩:=HX.o;by_cases hlt:k<q.length
          .obtain⟨b,off,ha,hb,hc⟩:=(AM.below yC.o c).at hlt;subst ha;have N:q[k]?=some q[k]:=Zv hlt;obtain⟨W,X⟩:=hc k _ N;have m1:=hp.name _ (List.getElem_mem hlt);have zB:b<wr.heap.size:=Yv
           match k,zC,hlt,s,N,W,X,m1 with
           |0,zC,hlt,s,N,W,X,m1=>
            have C:=Yw N;clear hc N HX;simp only[Nat.zero_mul,Nat.add_zero]at W X;generalize q[0]=x at *
            go_wp2;have q0:=Ae.cell G A;have q1:=Ae.cell H A;have q2:=Ae.cell I A;have q3:=Ae.cell J A;have q4:=Ae.cell K A;have q5:=Ae.cell L A;have q6:=Ae.cell M A;have q7:=Ae.cell W zB;have q8:=Ae.cell X zB;have zT:=Ae.ne wr
            have hV:∀n:Ae wr,Calls prog 17 #[.string x.name] n.w fun e E=>e=.returned (.bool (BV x.name))/\Below n.w.heap.size n.w E:=fun n=>(Gx _ _ m1).mono (by rintro e E ⟨rfl,rfl⟩;exact⟨rfl,Ad⟩)
            have Z:∀n:Ae wr,Calls prog 18 #[.agg (Yg B now d f a o.length F (some ⟨b,off,none⟩) q.length T l r.length S),.string x.sum] n.w fun e E=>e=.returned (Zg (BQ o x.sum))/\Below n.w.heap.size n.w E:=fun n=>Ck B now d f a F _ _ o x.sum n.w w.heap.size (AQ.below zN.o (c.trans (n.h.mono c.size))) (by have:=n.h.size;omega) Yv;have z:=Yw hV;have v:=Yw Z
            have g:w.heap.size<=wr.heap.size:=c.size;have V:=Yw (Za G (Za H (Za I (Za J (Za K (Za L (Za M A)))))));clear hV Z;cases hnm:BV x.name with
            |false=>
             rw[hnm]at z;refine Ai Yr Yr ?_
             repeat (go_big_quiet_step (first|exact Ae.calls (z.o _)|exact Ae.calls (v.o _)))
             refine wpQuiet_nil ?_;intro n;have m:=Yw (c.trans (n.h.mono g));clear c;go_wp2;go_ret;exact Ao.no (fun h=>by have:=(h.cv _ _ C.o).name;rw[hnm]at this;cases this) m.o
            |true=>
             rw[hnm]at z;rcases BM o x.sum with⟨D,zE⟩|⟨i2,u,D,hu,zF⟩
             .rw[D]at v;refine Ai Yr Yr ?_
              repeat (go_big_quiet_step (first|exact Ae.calls (z.o _)|exact Ae.calls (v.o _)))
              refine wpQuiet_nil ?_;intro n;have m:=Yw (c.trans (n.h.mono g));clear c;go_wp2;go_ret;exact Ao.no (fun h=>zE (h.cv _ _ C.o).sum) m.o
             .rw[D]at v;have zH:decide ((i2:Int)<0)=false:=Yu
              have HA:Hid (∀(t:Nat) y,t<0+1->q[t]?=some y->FK o q t y):=by
               intro t y hj Q;rcases Nat.lt_or_ge t (0)with Y|Y
               .exact s.o t y Y Q
               .obtain rfl:t=0:=Yv
                rw[C.o]at Q;cases Q;exact⟨hnm,fun j p h=>by omega,⟨u,Zs hu,zF⟩⟩
              refine Ai Yr Yr ?_
              repeat (go_big_quiet_step (first|exact Ae.calls (z.o _)|exact Ae.calls (v.o _)))
              refine wpQuiet_nil ?_;intro n;have m:=Yw (c.trans (n.h.mono g));have zA:=Aq.ah V.o n.h A;clear c;go_wp2;exact⟨⟨0+1,Yv,Yn,m.o,zA,HA⟩,Ys⟩
           |j+1,zC,hlt,s,N,W,X,m1=>
            have C:=Yw N;have HP:Hid (q[j]?=some q[j]):=Zv Yv;obtain⟨d0,_⟩:=hc j _ HP.o;clear hc N HX;generalize q[j+1]=x at *
            generalize q[j]=p at *
            have yG:IntKind.i64.wrap (j:Int)=(j:Int):=wrap_small Yv Yv;have yE:(0:Int)<=(j:Int):=Yv
            have yF:(j:Int)<(q.length:Int):=Yv
            have yL:(0:Int)<=(j:Int)+1:=Yv
            have yM:(j:Int)+1<(q.length:Int):=Yv
            go_wp2;have q0:=Ae.cell G A;have q1:=Ae.cell H A;have q2:=Ae.cell I A;have q3:=Ae.cell J A;have q4:=Ae.cell K A;have q5:=Ae.cell L A;have q6:=Ae.cell M A;have q7:=Ae.cell W zB;have q8:=Ae.cell X zB;have q9:=Ae.cell d0 zB;have zT:=Ae.ne wr
            have hV:∀n:Ae wr,Calls prog 17 #[.string x.name] n.w fun e E=>e=.returned (.bool (BV x.name))/\Below n.w.heap.size n.w E:=fun n=>(Gx _ _ m1).mono (by rintro e E ⟨rfl,rfl⟩;exact⟨rfl,Ad⟩)
            have Z:∀n:Ae wr,Calls prog 18 #[.agg (Yg B now d f a o.length F (some ⟨b,off,none⟩) q.length T l r.length S),.string x.sum] n.w fun e E=>e=.returned (Zg (BQ o x.sum))/\Below n.w.heap.size n.w E:=fun n=>Ck B now d f a F _ _ o x.sum n.w w.heap.size (AQ.below zN.o (c.trans (n.h.mono c.size))) (by have:=n.h.size;omega) Yv;have z:=Yw hV;have v:=Yw Z
            have g:w.heap.size<=wr.heap.size:=c.size;have V:=Yw (Za G (Za H (Za I (Za J (Za K (Za L (Za M A)))))));clear hV Z;cases hnm:BV x.name with
            |false=>
             rw[hnm]at z;refine Ai Yr Yr ?_
             repeat (go_big_quiet_step (first|exact Ae.calls (z.o _)|exact Ae.calls (v.o _)))
             refine wpQuiet_nil ?_;intro n;have m:=Yw (c.trans (n.h.mono g));clear c;go_wp2;go_ret;exact Ao.no (fun h=>by have:=(h.cv _ _ C.o).name;rw[hnm]at this;cases this) m.o
            |true=>
             rw[hnm]at z;cases hless:Op.bytesLess p.name.toList x.name.toList with
             |false=>
              refine Ai Yr Yr ?_
              repeat (go_big_quiet_step (first|exact Ae.calls (z.o _)|exact Ae.calls (v.o _)))
              refine wpQuiet_nil ?_;intro n;have m:=Yw (c.trans (n.h.mono g));clear c;go_wp2;go_ret;exact Ao.no (fun h=>by have:=(h.cv _ _ C.o).up j p rfl HP.o;unfold less at this;rw[hless]at this;cases this) m.o
             |true=>
              rcases BM o x.sum with⟨D,zE⟩|⟨i2,u,D,hu,zF⟩
              .rw[D]at v;refine Ai Yr Yr ?_
               repeat (go_big_quiet_step (first|exact Ae.calls (z.o _)|exact Ae.calls (v.o _)))
               refine wpQuiet_nil ?_;intro n;have m:=Yw (c.trans (n.h.mono g));clear c;go_wp2;go_ret;exact Ao.no (fun h=>zE (h.cv _ _ C.o).sum) m.o
              .rw[D]at v;have zH:decide ((i2:Int)<0)=false:=Yu
               have HA:Hid (∀(t:Nat) y,t<(j+1)+1->q[t]?=some y->FK o q t y):=by
                intro t y hj Q;rcases Nat.lt_or_ge t ((j+1))with Y|Y
                .exact s.o t y Y Q
                .obtain rfl:t=(j+1):=Yv
                 rw[C.o]at Q;cases Q;exact⟨hnm,fun j2 p2 h zM=>by cases h;rw[HP.o]at zM;cases zM;exact hless,⟨u,Zs hu,zF⟩⟩
               refine Ai Yr Yr ?_
               repeat (go_big_quiet_step (first|exact Ae.calls (z.o _)|exact Ae.calls (v.o _)))
               refine wpQuiet_nil ?_;intro n;have m:=Yw (c.trans (n.h.mono g));have zA:=Aq.ah V.o n.h A;clear c;go_wp2;exact⟨⟨(j+1)+1,Yv,Yn,m.o,zA,HA⟩,Ys⟩
          .clear G H I J K L M A;obtain⟨G,H,I,J,K,L,M,A⟩:=HX.o;have zO:Hid (∀(i:Nat) x,q[i]?=some x->FK o q i x):=fun i x hx=>s.o i x (by have:=(Zw hx).1;omega) hx;clear s;go_wp2
           go_loopw [4] (fun i wr=>∃k:Nat,k<=r.length/\i=Zg k/\Zz w wr/\Hid (Aq wr w.heap.size B now d f (.slice a o.length F) (.slice p q.length T) (.slice l r.length S))/\Hid (∀(j:Nat) x,j<k->r[j]?=some x->EF now d o r j x)) (fun i _=>r.length -(intOf i).toNat)
           case atStart=>exact⟨0,Nat.zero_le _,rfl,c,HX,fun j x h=>by omega⟩
           case round=>
            obtain⟨k,zC,rfl,c,HX,s⟩:=hrel;obtain⟨G,H,I,J,K,L,M,A⟩:=HX.o;by_cases hlt:k<r.length
            .obtain⟨b,off,ha,hb,hc⟩:=(AN.below yB.o c).at hlt;subst ha;have N:r[k]?=some r[k]:=Zv hlt;obtain⟨W,X,c2⟩:=hc k _ N;have zB:b<wr.heap.size:=Yv
             match k,zC,hlt,s,N,W,X,c2 with
             |0,zC,hlt,s,N,W,X,c2=>
              have C:=Yw N;clear hc N HX;simp only[Nat.zero_mul,Nat.add_zero]at W X c2;generalize r[0]=x at *
              go_wp2;have zG:Below wr.heap.size wr (wr.alloc (Obj.cells #[Value.int IntKind.i64 x.I,Value.string x.sum,Value.int IntKind.i64 x.Y] 50)):=Zy;have z1:(wr.alloc (Obj.cells #[Value.int IntKind.i64 x.I,Value.string x.sum,Value.int IntKind.i64 x.Y] 50)).heap.size=wr.heap.size+1:=Yu
              have t0:(wr.alloc (Obj.cells #[Value.int IntKind.i64 x.I,Value.string x.sum,Value.int IntKind.i64 x.Y] 50)).cell? (Zd (wr.heap.size) 0)=some (Zg x.I):=Yu
              have t1:(wr.alloc (Obj.cells #[Value.int IntKind.i64 x.I,Value.string x.sum,Value.int IntKind.i64 x.Y] 50)).cell? (Zd (wr.heap.size) 1)=some (.string x.sum):=Yu
              have t2:(wr.alloc (Obj.cells #[Value.int IntKind.i64 x.I,Value.string x.sum,Value.int IntKind.i64 x.Y] 50)).cell? (Zd (wr.heap.size) 2)=some (Zg x.Y):=Yu
              have V:Hid (Aq (wr.alloc (Obj.cells #[Value.int IntKind.i64 x.I,Value.string x.sum,Value.int IntKind.i64 x.Y] 50)) w.heap.size B now d f (.slice a o.length F) (.slice p q.length T) (.slice (some ⟨b,off,none⟩) r.length S)):=Aq.ah ⟨G,H,I,J,K,L,M,A⟩ zG A
              generalize hW1:(wr.alloc (Obj.cells #[Value.int IntKind.i64 x.I,Value.string x.sum,Value.int IntKind.i64 x.Y] 50))=W1 at *
              have P:Below w.heap.size w W1:=c.trans (zG.mono c.size);have g:w.heap.size<=W1.heap.size:=P.size;clear G H I J K L M;obtain⟨G,H,I,J,K,L,M,O⟩:=V.o;have q0:=Ae.cell G O;have q1:=Ae.cell H O;have q2:=Ae.cell I O;have q3:=Ae.cell J O;have q4:=Ae.cell K O;have q5:=Ae.cell L O;have q6:=Ae.cell M O;have q7:=Ae.cell t0 Yv;have q8:=Ae.cell t1 Yv
              have q9:=Ae.cell t2 Yv;have zT:=Ae.ne W1;have hV:∀n:Ae W1,Calls prog 15 #[Zg x.I,Zg 1,Zg d] n.w fun e E=>e=.returned (.bool (decide (1<=x.I/\x.I<=d)))/\Below n.w.heap.size n.w E:=fun n=>(Cc _ _ _ _).mono (by rintro e E ⟨rfl,rfl⟩;exact⟨rfl,Ad⟩)
              have Z:∀n:Ae W1,Calls prog 18 #[.agg (Yg B now d f a o.length F p q.length T (some ⟨b,off,none⟩) r.length S),.string x.sum] n.w fun e E=>e=.returned (Zg (BQ o x.sum))/\Below n.w.heap.size n.w E:=fun n=>Ck B now d f a F _ _ o x.sum n.w w.heap.size (AQ.below zN.o (P.trans (n.h.mono P.size))) (by have:=n.h.size;omega) Yv;have z:=Yw hV;have v:=Yw Z
              have yH:IntKind.i64.wrap (now+100000)=now+100000:=Fa Yv Yv;clear hV Z c;have c:=P;by_cases hrg:1<=x.I/\x.I<=d
              .rw[decide_eq_true hrg]at z;rcases BM o x.sum with⟨D,zE⟩|⟨i2,u,D,hu,zF⟩
               .rw[D]at v;refine Ai Yr Yr ?_
                repeat (go_big_quiet_step (first|exact Ae.calls (z.o _)|exact Ae.calls (v.o _)))
                refine wpQuiet_nil ?_;intro n;have m:=Yw (c.trans (n.h.mono g));clear c;go_wp2;go_ret;exact Ao.no (fun h=>zE (h.bj _ _ C.o).sum) m.o
               .rw[D]at v;have zH:decide ((i2:Int)<0)=false:=Yu
                by_cases ht1:now<x.Y
                .have zI:decide (x.Y<=now)=false:=Yt
                 by_cases ht2:x.Y<=now+100000
                 .have zJ:decide (now+100000<x.Y)=false:=Yt
                  have HA:Hid (∀(t:Nat) y,t<0+1->r[t]?=some y->EF now d o r t y):=by
                   intro t y hj Q;rcases Nat.lt_or_ge t (0)with Y|Y
                   .exact s.o t y Y Q
                   .obtain rfl:t=0:=Yv
                    rw[C.o]at Q;cases Q;exact⟨hrg.1,hrg.2,fun j p h=>by omega,⟨u,Zs hu,zF⟩,ht1,ht2⟩
                  refine Ai Yr Yr ?_
                  repeat (go_big_quiet_step (first|exact Ae.calls (z.o _)|exact Ae.calls (v.o _)))
                  refine wpQuiet_nil ?_;intro n;have m:=Yw (c.trans (n.h.mono g));have zA:=Aq.ah V.o n.h O;clear c P;go_wp2;exact⟨⟨0+1,Yv,Yn,m.o,zA,HA⟩,Ys⟩
                 .have zJ:decide (now+100000<x.Y)=true:=Yt
                  refine Ai Yr Yr ?_
                  repeat (go_big_quiet_step (first|exact Ae.calls (z.o _)|exact Ae.calls (v.o _)))
                  refine wpQuiet_nil ?_;intro n;have m:=Yw (c.trans (n.h.mono g));clear c;go_wp2;go_ret;exact Ao.no (fun h=>by have:=(h.bj _ _ C.o).fy;omega) m.o
                .have zI:decide (x.Y<=now)=true:=Yt
                 refine Ai Yr Yr ?_
                 repeat (go_big_quiet_step (first|exact Ae.calls (z.o _)|exact Ae.calls (v.o _)))
                 refine wpQuiet_nil ?_;intro n;have m:=Yw (c.trans (n.h.mono g));clear c;go_wp2;go_ret;exact Ao.no (fun h=>by have:=(h.bj _ _ C.o).gh;omega) m.o
              .rw[decide_eq_false hrg]at z;refine Ai Yr Yr ?_
               repeat (go_big_quiet_step (first|exact Ae.calls (z.o _)|exact Ae.calls (v.o _)))
               refine wpQuiet_nil ?_;intro n;have m:=Yw (c.trans (n.h.mono g));clear c;go_wp2;go_ret;exact Ao.no (fun h=>hrg ⟨(h.bj _ _ C.o).y,(h.bj _ _ C.o).hi⟩) m.o
             |j+1,zC,hlt,s,N,W,X,c2=>
              have C:=Yw N;have HP:Hid (r[j]?=some r[j]):=Zv Yv;obtain⟨d0,_,_⟩:=hc j _ HP.o;clear hc N HX;generalize r[j+1]=x at *
              generalize r[j]=p' at *
              have yG:IntKind.i64.wrap (j:Int)=(j:Int):=wrap_small Yv Yv;have yE:(0:Int)<=(j:Int):=Yv
              have yF:(j:Int)<(r.length:Int):=Yv
              go_wp2;have zG:Below wr.heap.size wr (wr.alloc (Obj.cells #[Value.int IntKind.i64 x.I,Value.string x.sum,Value.int IntKind.i64 x.Y] 50)):=Zy;have z1:(wr.alloc (Obj.cells #[Value.int IntKind.i64 x.I,Value.string x.sum,Value.int IntKind.i64 x.Y] 50)).heap.size=wr.heap.size+1:=Yu
              have t0:(wr.alloc (Obj.cells #[Value.int IntKind.i64 x.I,Value.string x.sum,Value.int IntKind.i64 x.Y] 50)).cell? (Zd (wr.heap.size) 0)=some (Zg x.I):=Yu
              have t1:(wr.alloc (Obj.cells #[Value.int IntKind.i64 x.I,Value.string x.sum,Value.int IntKind.i64 x.Y] 50)).cell? (Zd (wr.heap.size) 1)=some (.string x.sum):=Yu
              have t2:(wr.alloc (Obj.cells #[Value.int IntKind.i64 x.I,Value.string x.sum,Value.int IntKind.i64 x.Y] 50)).cell? (Zd (wr.heap.size) 2)=some (Zg x.Y):=Yu
              have V:Hid (Aq (wr.alloc (Obj.cells #[Value.int IntKind.i64 x.I,Value.string x.sum,Value.int IntKind.i64 x.Y] 50)) w.heap.size B now d f (.slice a o.length F) (.slice p q.length T) (.slice (some ⟨b,off,none⟩) r.length S)):=Aq.ah ⟨G,H,I,J,K,L,M,A⟩ zG A;have d1:=(zG.cell (p:=⟨b,off+j *3,none⟩) zB).trans d0
              generalize hW1:(wr.alloc (Obj.cells #[Value.int IntKind.i64 x.I,Value.string x.sum,Value.int IntKind.i64 x.Y] 50))=W1 at *
              have P:Below w.heap.size w W1:=c.trans (zG.mono c.size);have g:w.heap.size<=W1.heap.size:=P.size;clear G H I J K L M;obtain⟨G,H,I,J,K,L,M,O⟩:=V.o;have q0:=Ae.cell G O;have q1:=Ae.cell H O;have q2:=Ae.cell I O;have q3:=Ae.cell J O;have q4:=Ae.cell K O;have q5:=Ae.cell L O;have q6:=Ae.cell M O;have q7:=Ae.cell t0 Yv;have q8:=Ae.cell t1 Yv
              have q9:=Ae.cell t2 Yv;have yN:=Ae.cell d1 Yv;have zT:=Ae.ne W1;have hV:∀n:Ae W1,Calls prog 15 #[Zg x.I,Zg 1,Zg d] n.w fun e E=>e=.returned (.bool (decide (1<=x.I/\x.I<=d)))/\Below n.w.heap.size n.w E:=fun n=>(Cc _ _ _ _).mono (by rintro e E ⟨rfl,rfl⟩;exact⟨rfl,Ad⟩)
              have Z:∀n:Ae W1,Calls prog 18 #[.agg (Yg B now d f a o.length F p q.length T (some ⟨b,off,none⟩) r.length S),.string x.sum] n.w fun e E=>e=.returned (Zg (BQ o x.sum))/\Below n.w.heap.size n.w E:=fun n=>Ck B now d f a F _ _ o x.sum n.w w.heap.size (AQ.below zN.o (P.trans (n.h.mono P.size))) (by have:=n.h.size;omega) Yv;have z:=Yw hV;have v:=Yw Z
              have yH:IntKind.i64.wrap (now+100000)=now+100000:=Fa Yv Yv;clear hV Z c;have c:=P;by_cases hrg:1<=x.I/\x.I<=d
              .rw[decide_eq_true hrg]at z;by_cases hless:p'.I<x.I
               .have zK:decide (x.I<=p'.I)=false:=Yt
                rcases BM o x.sum with⟨D,zE⟩|⟨i2,u,D,hu,zF⟩
                .rw[D]at v;refine Ai Yr Yr ?_
                 repeat (go_big_quiet_step (first|exact Ae.calls (z.o _)|exact Ae.calls (v.o _)))
                 refine wpQuiet_nil ?_;intro n;have m:=Yw (c.trans (n.h.mono g));clear c;go_wp2;go_ret;exact Ao.no (fun h=>zE (h.bj _ _ C.o).sum) m.o
                .rw[D]at v;have zH:decide ((i2:Int)<0)=false:=Yu
                 by_cases ht1:now<x.Y
                 .have zI:decide (x.Y<=now)=false:=Yt
                  by_cases ht2:x.Y<=now+100000
                  .have zJ:decide (now+100000<x.Y)=false:=Yt
                   have HA:Hid (∀(t:Nat) y,t<(j+1)+1->r[t]?=some y->EF now d o r t y):=by
                    intro t y hj Q;rcases Nat.lt_or_ge t ((j+1))with Y|Y
                    .exact s.o t y Y Q
                    .obtain rfl:t=(j+1):=Yv
                     rw[C.o]at Q;cases Q;exact⟨hrg.1,hrg.2,fun j2 p2 h zM=>by cases h;rw[HP.o]at zM;cases zM;exact hless,⟨u,Zs hu,zF⟩,ht1,ht2⟩
                   refine Ai Yr Yr ?_
                   repeat (go_big_quiet_step (first|exact Ae.calls (z.o _)|exact Ae.calls (v.o _)))
                   refine wpQuiet_nil ?_;intro n;have m:=Yw (c.trans (n.h.mono g));have zA:=Aq.ah V.o n.h O;clear c P;go_wp2;exact⟨⟨(j+1)+1,Yv,Yn,m.o,zA,HA⟩,Ys⟩
                  .have zJ:decide (now+100000<x.Y)=true:=Yt
                   refine Ai Yr Yr ?_
                   repeat (go_big_quiet_step (first|exact Ae.calls (z.o _)|exact Ae.calls (v.o _)))
                   refine wpQuiet_nil ?_;intro n;have m:=Yw (c.trans (n.h.mono g));clear c;go_wp2;go_ret;exact Ao.no (fun h=>by have:=(h.bj _ _ C.o).fy;omega) m.o
                 .have zI:decide (x.Y<=now)=true:=Yt
                  refine Ai Yr Yr ?_
                  repeat (go_big_quiet_step (first|exact Ae.calls (z.o _)|exact Ae.calls (v.o _)))
                  refine wpQuiet_nil ?_;intro n;have m:=Yw (c.trans (n.h.mono g));clear c;go_wp2;go_ret;exact Ao.no (fun h=>by have:=(h.bj _ _ C.o).gh;omega) m.o
               .have zK:decide (x.I<=p'.I)=true:=Yt
                refine Ai Yr Yr ?_
                repeat (go_big_quiet_step (first|exact Ae.calls (z.o _)|exact Ae.calls (v.o _)))
                refine wpQuiet_nil ?_;intro n;have m:=Yw (c.trans (n.h.mono g));clear c;go_wp2;go_ret;exact Ao.no (fun h=>by have:=(h.bj _ _ C.o).up j p' rfl HP.o;omega) m.o
              .rw[decide_eq_false hrg]at z;refine Ai Yr Yr ?_
               repeat (go_big_quiet_step (first|exact Ae.calls (z.o _)|exact Ae.calls (v.o _)))
               refine wpQuiet_nil ?_;intro n;have m:=Yw (c.trans (n.h.mono g));clear c;go_wp2;go_ret;exact Ao.no (fun h=>hrg ⟨(h.bj _ _ C.o).y,(h.bj _ _ C.o).hi⟩) m.o
            .go_wp2;go_ret;exact Ao.yes ⟨hN,hn1,hn2,hn3,zR.o.1,zR.o.2.1,zR.o.2.2,zO.o,fun i x hx=>s.o i x (by have:=(Zw hx).1;omega) hx⟩ c
       .have zX:decide ((200:Int)<(r.length:Int))=true:=Yt
        clear hx;go_wp2;go_ret;exact Ao.no (fun h=>hn3 h.nl) R
      .have zW:decide ((100:Int)<(q.length:Int))=true:=Yt
       clear hx;go_wp2;go_ret;exact Ao.no (fun h=>hn2 h.np) R
     .have zV:decide ((600:Int)<(o.length:Int))=true:=Yt
      clear hx;go_wp2;go_ret;exact Ao.no (fun h=>hn1 h.nth) R
    .rw[decide_eq_false h3];go_wp2;go_ret;exact Ao.no (fun h=>h3 ⟨h.bh.ak,h.bh.cj⟩) R
   .rw[decide_eq_false h2];go_wp2;go_ret;exact Ao.no (fun h=>h2 ⟨h.bh.bi,h.bh.fj⟩) R
  .rw[decide_eq_false h1];go_wp2;go_ret;exact Ao.no (fun h=>h1 ⟨h.bh.ci,h.bh.gi⟩) R
 .rw[decide_eq_false h0];go_wp2;go_ret;exact Ao.no (fun h=>h0 ⟨h.bh.gj,h.bh.gn⟩) R
section
def Ij(wd:Int)(k:Kd):Int:=1+k.B.length *wd+k.F.size
def Dh(wd:Int)(ks:List Kd):Int:=(ks.map (Ij wd)).sum
theorem KV(b:a[k]?=some x):Dh wd (a.take (k+1))=Dh wd (a.take k)+Ij wd x:=by unfold Dh;rw[IW b,List.map_append,List.sum_append];simp
theorem NL(h:Az x.F x.B wd=true):1<=Ij wd x/\Ij wd x<=2241/\0<=(x.B.length:Int) *wd/\(x.B.length:Int) *wd<=240:=by have h:=AV h;have b:=h.y;have a:=h.hi;have c:=h.B;have d:=h.F;have e:0<=(x.B.length:Int) *wd:=Int.mul_nonneg Yv Yv;have f:(x.B.length:Int) *wd<=30 *8:=Int.mul_le_mul Yv a Yv Yv;unfold Ij;omega
theorem NM(h:∀(i:Nat) k,a[i]?=some k->Az k.F k.B wd=true):∀k,k<=a.length->0<=Dh wd (a.take k)/\Dh wd (a.take k)<=2241 *k
 |0,_=>by simp[Dh]
 |k+1,hk=>by have c:=NM h k Yv;have b:a[k]?=some (a[k]'(by omega)):=Zv Yv;have:=NL (h k _ b);rw[KV b];omega
theorem QC(wd now f d:Int)(a:Zk)(l:Nat)(P L:Value)(c:List Kd)(w:Zh)(g:AQ w w.heap.size a c)(Q:c.length<=600)(h:∀(i:Nat) k,c[i]?=some k->Az k.F k.B wd=true):
 Calls prog 129 #[.agg #[Zg wd,Zg now,Zg f,Zg d,.slice a c.length l,P,L]] w fun e E=>e=.returned (Zg (Dh wd c))/\Zz w E:=by
 have s:Below w.heap.size w (w.alloc (.cells #[Zg wd,Zg now,Zg f,Zg d,.slice a c.length l,P,L] 27)):=Zy;go_enter func129,ntmps129;go_wp2
 go_loopw [3,4] (fun n i wr=>∃(k m:Nat),k<=c.length/\i=Zg k/\n=Zg (Dh wd (c.take k))/\wr=(w.alloc (.cells #[Zg wd,Zg now,Zg f,Zg d,.slice a c.length l,P,L] 27)).drewN m) (fun _ i _=>c.length -(intOf i).toNat)
 case atStart=>exact⟨0,0,Nat.zero_le _,rfl,by simp[Dh],rfl⟩
 case round=>
  obtain⟨k,m,B,rfl,rfl,rfl⟩:=hrel;by_cases hlt:k<c.length
  .obtain⟨b,off,A,O,r⟩:=g.at hlt;subst A;have j:Hid (c[k]?=some c[k]):=Zv hlt;obtain⟨H,I,c2,S,T,c3,_⟩:=r k _ j.o;have t:=NL (h k _ j.o);have u:=NM h k B;have HS:=Yw (KV (wd:=wd) j.o);have F:(0:Int)<=(k:Int):=Yv
   have G:(k:Int)<(c.length:Int):=Yv
   obtain⟨o,q,v,y⟩:=t;obtain⟨C,D⟩:=u;have z:Dh wd (c.take k)<=1344600:=Yv
   generalize c[k]=x at *
   unfold Ij at o q;generalize hRK:Dh wd (c.take k)=R at *
   have J:IntKind.i64.wrap (R+1)=R+1:=Fa Yv Yv;have K:IntKind.i64.wrap ((x.B.length:Int) *wd)=(x.B.length:Int) *wd:=Fa Yv Yv;have M:IntKind.i64.wrap (R+1+(x.B.length:Int) *wd)=R+1+(x.B.length:Int) *wd:=Fa Yv Yv;have N:IntKind.i64.wrap (R+1+(x.B.length:Int) *wd+x.F.size)=R+1+(x.B.length:Int) *wd+x.F.size:=Fa Yv Yv
   clear r g h o q v y C D z hRK;go_wp2;go_quiet (fail);go_wp2;refine⟨⟨k+1,_,Yv,Yn,?_,rfl⟩,Ys⟩;rw[HS.o];unfold Ij;congr 1;omega
  .go_wp2;go_ret;exact⟨PK (by rw[Zt Yv]),AH s _⟩
open Classical in
end
section
attribute [local go_sem↓] Go.wp_at_zero Go.wp_at_succ
theorem KW(n now c b:Int)(a p l:Zk)(B D C:Nat)(d:List Kd)(m:List Pd)(j:List Ld)(u i f v:Int)(A z:Zk)(t s:Nat)(q o:Zl)(w:Zh)(r:AW w w.heap.size a p l d m j)(O:Ez d)(Q:Gc m)(Z:JV j)(N:EZ d m j)(W:∀k∈d,(Lit.int .i64 k.born).wf=true)(R:Ab w w.heap.size A q)(P:Ab w w.heap.size z o)(J:GW q o):
 Calls prog 19 #[.agg (Yg n now c b a d.length B p m.length D l j.length C),.agg (Ye u A q.length t z o.length s i f v)] w fun e w'=>Ao (AI n now c b d m j/\AK n b u i f v q o) w w' e:=by
 have M:Below w.heap.size w ((w.alloc (.cells (Yg n now c b a d.length B p m.length D l j.length C) 27)).alloc (.cells (Ye u A q.length t z o.length s i f v) 31)):=(Zy).alloc Yu _;have L:=(Aq.new w n now c b (.slice a d.length B) (.slice p m.length D) (.slice l j.length C) 27).below (Ad.alloc (Zx) (.cells (Ye u A q.length t z o.length s i f v) 31))
 have G:=Bi.new (w.alloc (.cells (Yg n now c b a d.length B p m.length D l j.length C) 27)) u i f v (.slice A q.length t) (.slice z o.length s) 31;rw[World.size_alloc]at G;go_enter func19,ntmps19;go_wp2_with fail;refine(KS n now c b a p l B D C d m j _ (r.L M) O Q Z N W).mono ?_;rintro e w2 ⟨Y,rfl,K,x⟩;have g:=M.trans (x.mono Yt);obtain⟨x0,x1,x2,x3,x4,x5,x6⟩:=G.below x
 obtain⟨y0,y1,y2,y3,y4,y5,y6,y7⟩:=L.below x;clear x G L M;have F:=Yw K;clear K;cases Y with
 |false=>have E:=Yw g;clear x0 x1 x2 x3 x4 x5 x6 y0 y1 y2 y3 y4 y5 y6 y7 r O Q N R P g J;go_wp2;go_ret;exact Ao.no (fun h=>by have:=F.o.2 h.1;cases this) E.o
 |true=>
  have y:=F.o.1 rfl;have S:=Yw (Ly u i f v n b A z t s q o w2 (R.L g) (P.L g) J y.bh.gn y.bh.cj);have V:=Yw y;have E:=Yw g;have X:=g.size;clear r O Q N R P y g F;go_wp2_with fail;refine S.Am ?_;rintro e w3 ⟨T,rfl,H,I⟩;have U:=Yw (E.o.trans (I.mono X));have HN:Hid (T=true↔AI n now c b d m j/\AK n b u i f v q o):=⟨fun h=>⟨V.o,H.1 h⟩,fun h=>H.2 h.2⟩;clear H S I;go_wp2;go_ret
  exact⟨T,rfl,HN.o,U.o⟩
end
section
open Classical in
end
theorem OS(wd now E r:Int)(a:Zk)(sc:Nat)(P L:Value)(B:List Kd)(s:Zi)(i n m C:Int)(g h T Q:Nat)(b c:Zl)(w:Zh)(zE:AQ w w.heap.size a B)(yC:B.length<=1048576)(hq:Ab w w.heap.size (some ⟨g,0,none⟩) b)(hm:Ab w w.heap.size (some ⟨h,0,none⟩) c)(hf:GW b c)(yT:b.length<=23200):
 Calls prog 130 #[.agg #[Zg wd,Zg now,Zg E,Zg r,.slice a B.length sc,P,L],.agg (Ye i (some ⟨g,0,none⟩) b.length T (some ⟨h,0,none⟩) c.length Q n m C),.string s] w fun e w'=>∃x t y q,e=.returned (.agg (Ye i (some ⟨x,0,none⟩) ((shQ i B b c s).length) t (some ⟨y,0,none⟩) c.length q n m C))/\
  w'.ownsRow w.heap.size 9 1 (Yz x (shQ i B b c s).length t) (shQ i B b c s).length ((shQ i B b c s).map Value.string)/\w'.ownsRow w.heap.size 9 1 (Yz y c.length q) c.length (c.map Value.string)/\x≠y/\Zz w w':=by
 obtain⟨i0,hi,yE,yF,yG⟩:=info_parts BO;have yR:=hf.q;have yB:=hf.m;obtain⟨W,U⟩:=Af (((w.alloc (.cells #[Zg wd,Zg now,Zg E,Zg r,.slice a B.length sc,P,L] 27)).alloc (.cells (Ye i (some ⟨g,0,none⟩) b.length T (some ⟨h,0,none⟩) c.length Q n m C) 31)).alloc (.cells Xx 31));have zG:Below w.heap.size w W:=by rw[U];exact((Zy).alloc Yu _).alloc Yt _
 have x2:Bi W (w.heap.size+1+1) 0 Zb Zb 0 0 0:=by rw[U];exact⟨by simp[go_sem],by simp[go_sem],by simp[go_sem],by simp[go_sem],by simp[go_sem],by simp[go_sem],Yu⟩
 have x1:Bi W (w.heap.size+1) i (Yz g b.length T) (Yz h c.length Q) n m C:=by rw[U];exact⟨by simp[go_sem],by simp[go_sem],by simp[go_sem],by simp[go_sem],by simp[go_sem],by simp[go_sem],Ym⟩
 have x0:Aq W w.heap.size wd now E r (.slice a B.length sc) P L:=by rw[U];exact⟨by simp[go_sem],by simp[go_sem],by simp[go_sem],by simp[go_sem],by simp[go_sem],by simp[go_sem],by simp[go_sem],Ym⟩
 have D:∀o,W.frozen? ⟨w.heap.size+1+1,o,none⟩=false:=fun o=>by rw[U];simp[go_sem]
 have yV:W.heap.size=w.heap.size+3:=by rw[U];simp
 have HW:=Yw U;have N:=Yw (Zn hq hm);have HK:=Yw zE;have zI:=Yw x1;have K:=Yw x2;have d:=Yw zG;clear U hq hm zE x1 x2;obtain⟨X,Y,Z,a3,a4,a5,a6⟩:=zI.o;obtain⟨y0,y1,y2,y3,y4,y5,y6,y7⟩:=x0;have yA:Below W.heap.size W W:=Below.refl _ _;go_enter func130,ntmps130;go_upto_region 1 with fail;rw[<-HW.o];clear HW;by_cases p0:i=0
 .have HN:Hid (shQ i B b c s=b):=IZ (.inl p0);subst p0;clear y0 y1 y2 y3 y4 y5 y6 y7;obtain⟨z,rfl⟩:=Af W;go_wp2_with fail;refine(Eu 0 n m C g h T Q b c z (Ab.L N.o.1 d.o) (Ab.L N.o.2 d.o) hf).mono ?_;rintro e F ⟨x,t,y,q,rfl,H,I,M,f⟩
  have l:=Yw (Zn (H.mono (show w.heap.size+3<=z.heap.size by omega)) (Zn (I.mono (show w.heap.size+3<=z.heap.size by omega)) (Zn M (d.o.trans (f.mono d.o.size)))));obtain⟨d0,d1,d2,d3,d4,d5,d6⟩:=Bi.below K.o f;have zK:∀o,F.frozen? ⟨w.heap.size+1+1,o,none⟩=false:=fun o=>(f.frozen (p:=⟨w.heap.size+1+1,o,none⟩) Ym).trans (D o);clear H I f X Y Z a3 a4 a5 D;go_wp2
  refine bodyPost_ret (v:=.agg (Ye 0 (some ⟨x,0,none⟩) b.length t (some ⟨y,0,none⟩) c.length q n m C)) (by simp[results,results130,go_sem,d0,d1,d2,d3,d4,d5]) rfl ?_;rw[HN.o];refine⟨x,t,y,q,rfl,?_,?_,l.o.2.2.1,?_⟩
  .refine World.ownsRow.mono ?_ (show w.heap.size<=w.heap.size+3 by omega)
   iterate 6 (refine ownsRow_setCell_below ?_ Yu _)
   exact l.o.1
  .refine World.ownsRow.mono ?_ (show w.heap.size<=w.heap.size+3 by omega)
   iterate 6 (refine ownsRow_setCell_below ?_ Yu _)
   exact l.o.2.1
  .iterate 6 (refine Below.setCell ?_ Ym _)
   exact l.o.2.2.2
 have yW:(i==0)=false:=by simpa using p0
 go_wp2_with fail;refine(Ck wd now E r a sc P L B s W w.heap.size (AQ.below HK.o zG) zG.size yC).mono ?_;rintro e z ⟨rfl,S⟩;have zA:=Yw (d.o.trans (S.mono d.o.size));have zB:=Yw (Bi.below zI.o S);have zC:=Yw (Bi.below K.o S);have zJ:∀o,z.frozen? ⟨w.heap.size+1+1,o,none⟩=false:=fun o=>(S.frozen (p:=⟨w.heap.size+1+1,o,none⟩) Ym).trans (D o);have yU:=S.size
 clear X Y Z a3 a4 a5 a6 y0 y1 y2 y3 y4 y5 y6 y7 zI K d D S yA zG;have d:=Yw zA.o;have K:=Yw zC.o;have D:=zJ;clear zA zC zJ;obtain⟨X,Y,Z,a3,a4,a5,a6⟩:=zB.o;rcases BM B s with⟨zH,zU⟩|⟨fi,fu,zH,zT,zS⟩
 .have HN:Hid (shQ i B b c s=b):=IZ (.inr (.inl zU));rw[zH];clear zU;go_wp2_with fail;refine(Eu i n m C g h T Q b c z (Ab.L N.o.1 d.o) (Ab.L N.o.2 d.o) hf).mono ?_;rintro e F ⟨x,t,y,q,rfl,H,I,M,f⟩;have l:=Yw (Zn (H.mono (show w.heap.size+3<=z.heap.size by omega)) (Zn (I.mono (show w.heap.size+3<=z.heap.size by omega)) (Zn M (d.o.trans (f.mono d.o.size)))))
  obtain⟨d0,d1,d2,d3,d4,d5,d6⟩:=Bi.below K.o f;have zK:∀o,F.frozen? ⟨w.heap.size+1+1,o,none⟩=false:=fun o=>(f.frozen (p:=⟨w.heap.size+1+1,o,none⟩) Ym).trans (D o);clear H I f X Y Z a3 a4 a5 D;go_wp2;refine bodyPost_ret (v:=.agg (Ye i (some ⟨x,0,none⟩) b.length t (some ⟨y,0,none⟩) c.length q n m C)) (by simp[results,results130,go_sem,d0,d1,d2,d3,d4,d5]) rfl ?_;rw[HN.o]
  refine⟨x,t,y,q,rfl,?_,?_,l.o.2.2.1,?_⟩
  .refine World.ownsRow.mono ?_ (show w.heap.size<=w.heap.size+3 by omega)
   iterate 6 (refine ownsRow_setCell_below ?_ Yu _)
   exact l.o.1
  .refine World.ownsRow.mono ?_ (show w.heap.size<=w.heap.size+3 by omega)
   iterate 6 (refine ownsRow_setCell_below ?_ Yu _)
   exact l.o.2.1
  .iterate 6 (refine Below.setCell ?_ Ym _)
   exact l.o.2.2.2
 have zY:Ay B s:=⟨fu,Zs zT,zS⟩;rw[zH];have yM:decide ((fi:Int)<0)=false:=Yu
 clear zH zT zS;have HC:=Yw (Dq (some ⟨h,0,none⟩) Q c s z z.heap.size (Ab.L (w:=w) N.o.2 d.o) yB);go_wp2_with fail;refine HC.Am ?_;rintro e w9 ⟨rfl,zZ⟩;rw[zZ];clear zZ HC w9;by_cases hin:s∈c
 .have HN:Hid (shQ i B b c s=b):=IZ (.inr (.inr (.inl hin)));have J:c.any (fun x=>decide (x=s))=true:=List.any_eq_true.2 ⟨s,hin,Yu⟩;rw[J];clear J hin;go_wp2_with fail;refine(Eu i n m C g h T Q b c z (Ab.L N.o.1 d.o) (Ab.L N.o.2 d.o) hf).mono ?_;rintro e F ⟨x,t,y,q,rfl,H,I,M,f⟩
  have l:=Yw (Zn (H.mono (show w.heap.size+3<=z.heap.size by omega)) (Zn (I.mono (show w.heap.size+3<=z.heap.size by omega)) (Zn M (d.o.trans (f.mono d.o.size)))));obtain⟨d0,d1,d2,d3,d4,d5,d6⟩:=Bi.below K.o f;have zK:∀o,F.frozen? ⟨w.heap.size+1+1,o,none⟩=false:=fun o=>(f.frozen (p:=⟨w.heap.size+1+1,o,none⟩) Ym).trans (D o);clear H I f X Y Z a3 a4 a5 D;go_wp2
  refine bodyPost_ret (v:=.agg (Ye i (some ⟨x,0,none⟩) b.length t (some ⟨y,0,none⟩) c.length q n m C)) (by simp[results,results130,go_sem,d0,d1,d2,d3,d4,d5]) rfl ?_;rw[HN.o];refine⟨x,t,y,q,rfl,?_,?_,l.o.2.2.1,?_⟩
  .refine World.ownsRow.mono ?_ (show w.heap.size<=w.heap.size+3 by omega)
   iterate 6 (refine ownsRow_setCell_below ?_ Yu _)
   exact l.o.1
  .refine World.ownsRow.mono ?_ (show w.heap.size<=w.heap.size+3 by omega)
   iterate 6 (refine ownsRow_setCell_below ?_ Yu _)
   exact l.o.2.1
  .iterate 6 (refine Below.setCell ?_ Ym _)
   exact l.o.2.2.2
 have J:c.any (fun x=>decide (x=s))=false:=by rw[List.any_eq_false];intro x hx e;exact hin (by simpa using (of_decide_eq_true e)▸hx)
 rw[J];clear J;by_cases p1:b.length=23200
 .have HN:Hid (shQ i B b c s=b):=IZ (.inr (.inr (.inr p1)));have yJ:decide ((23200:Int)<=(b.length:Int))=true:=Yt
  clear p1;go_wp2_with fail;refine(Eu i n m C g h T Q b c z (Ab.L N.o.1 d.o) (Ab.L N.o.2 d.o) hf).mono ?_;rintro e F ⟨x,t,y,q,rfl,H,I,M,f⟩;have l:=Yw (Zn (H.mono (show w.heap.size+3<=z.heap.size by omega)) (Zn (I.mono (show w.heap.size+3<=z.heap.size by omega)) (Zn M (d.o.trans (f.mono d.o.size)))));obtain⟨d0,d1,d2,d3,d4,d5,d6⟩:=Bi.below K.o f
  have zK:∀o,F.frozen? ⟨w.heap.size+1+1,o,none⟩=false:=fun o=>(f.frozen (p:=⟨w.heap.size+1+1,o,none⟩) Ym).trans (D o);clear H I f X Y Z a3 a4 a5 D;go_wp2;refine bodyPost_ret (v:=.agg (Ye i (some ⟨x,0,none⟩) b.length t (some ⟨y,0,none⟩) c.length q n m C)) (by simp[results,results130,go_sem,d0,d1,d2,d3,d4,d5]) rfl ?_;rw[HN.o];refine⟨x,t,y,q,rfl,?_,?_,l.o.2.2.1,?_⟩
  .refine World.ownsRow.mono ?_ (show w.heap.size<=w.heap.size+3 by omega)
   iterate 6 (refine ownsRow_setCell_below ?_ Yu _)
   exact l.o.1
  .refine World.ownsRow.mono ?_ (show w.heap.size<=w.heap.size+3 by omega)
   iterate 6 (refine ownsRow_setCell_below ?_ Yu _)
   exact l.o.2.1
  .iterate 6 (refine Below.setCell ?_ Ym _)
   exact l.o.2.2.2
 have yJ:decide ((23200:Int)<=(b.length:Int))=false:=Yt
 have HN:Hid (shQ i B b c s=b++[s]):=Vi p0 zY hin p1;clear zY hin;go_wp2_with fail;refine(Eu i n m C g h T Q b c z (Ab.L N.o.1 d.o) (Ab.L N.o.2 d.o) hf).mono ?_;rintro e F ⟨x,t,y,q,rfl,H,I,M,f⟩;have lx:=H.lt x rfl;have ly:=I.lt y rfl;have zO:=f.size;obtain⟨G,hV⟩:=Af (F.alloc (.cells (Ye i (some ⟨x,0,none⟩) b.length t (some ⟨y,0,none⟩) c.length q n m C) 31))
 have zF:Below F.heap.size F G:=by rw[hV];exact Zy
 have O:=f.trans (zF.mono zO);have l:Hid (G.ownsRow (w.heap.size+3) 9 1 (Yz x b.length t) b.length (b.map Value.string)/\G.ownsRow (w.heap.size+3) 9 1 (Yz y c.length q) c.length (c.map Value.string)/\x≠y/\Zz w G):=⟨(JT H zF).mono Yv,(JT I zF).mono Yv,M,d.o.trans (O.mono d.o.size)⟩;have H8:Hid (Bi G F.heap.size i (Yz x b.length t) (Yz y c.length q) n m C):=by show Bi G F.heap.size i (Yz x b.length t) (Yz y c.length q) n m C;rw[hV];exact Bi.new _ _ _ _ _ _ _ _
 have H2:=Yw (Bi.below K.o O);have zP:∀o,G.frozen? ⟨w.heap.size+1+1,o,none⟩=false:=fun o=>(O.frozen (p:=⟨w.heap.size+1+1,o,none⟩) Ym).trans (D o);have f8:∀o,G.frozen? ⟨F.heap.size,o,none⟩=false:=fun o=>by rw[hV];simp[go_sem]
 have yI:G.heap.size=F.heap.size+1:=by rw[hV];simp
 go_upto_region 4 with fail;rw[<-hV];clear hV zF H I f O D zB K d N HK X Y Z a3 a4 a5 a6;have D:=zP;clear zP;generalize F.heap.size=b7 at *
 have yP:w.heap.size+3<=b7:=Yv
 have yQ:b7<G.heap.size:=Yv
 clear yI;obtain⟨c0,c1,c2,c3,c4,c5,c6⟩:=H8.o;obtain⟨d0,d1,d2,d3,d4,d5,d6⟩:=H2.o;go_wp2_with (first
  |(at_builtin;refine wpList_append_lies _ rfl _ _ 29 rfl (w.heap.size+3) 9 i0 Zc 1 16 underlying29 hi yE yF yG rfl Yq _ b.length (b.map Value.string) rfl ?d0 ⟨G.heap.size,0,none⟩ 1 1 [.string s] rfl rfl ?d1 ?d2 Yq ?d3 ?d4 ?d5 _ rfl ?_)
  |go_in)
 case d0=>exact l.o.1.alloc _
 case d1=>exact cell_one_new G (.string s) 9
 case d2=>intro u hu;simp at hu;subst hu;rfl
 case d3=>unfold maxLen;omega
 case d4=>omega
 case d5=>simp;omega
 intro k cap w4 zV zM zN yL;have R:Below G.heap.size G (G.alloc (.cells #[.string s] 9)):=Zy;have yH:=zM.size;simp[Value.ownBlock]at yH zN;have A:(G.alloc (.cells #[.string s] 9)).grownBy w4 (some x):=by simpa [Value.ownBlock]using zM
 have r7:=(Bi.below H8.o R).grown A Yv;have r2:=(Bi.below H2.o R).grown A Yv;have yN:∀o,w4.frozen? ⟨b7,o,none⟩=false:=fun o=>(A.frozen_far ⟨b7,o,none⟩ Ym Ym).trans ((R.frozen (p:=⟨b7,o,none⟩) Ym).trans (f8 o))
 have zJ:∀o,w4.frozen? ⟨w.heap.size+1+1,o,none⟩=false:=fun o=>(A.frozen_far ⟨w.heap.size+1+1,o,none⟩ Ym Ym).trans ((R.frozen (p:=⟨w.heap.size+1+1,o,none⟩) Ym).trans (D o));have zX:w4.ownsRow (w.heap.size+3) 9 1 (Yz y c.length q) c.length (c.map Value.string):=(l.o.2.1.alloc _).kept A (.inr (by simp[Value.ownBlock];omega))
 have zR:Below w.heap.size w w4:=(l.o.2.2.2.trans (R.mono l.o.2.2.2.size)).grown A Yt (fun j hj=>by cases hj;omega);have yD:k≠y:=Yv
 have yS:¬k=b7:=Yv
 have yO:¬b7=w.heap.size+1+1:=Yv
 have yK:¬w.heap.size+1+1=b7:=Yv
 have zW:w4.ownsRow (w.heap.size+3) 9 1 (Yz k (b.length+1) cap) (b.length+1) ((b++[s]).map Value.string):=by simpa using zV
 have HP:=Yw (Zn zW (Zn zX (Zn yD zR)));obtain⟨c0,c1,c2,c3,c4,c5,c6⟩:=r7;obtain⟨d0,d1,d2,d3,d4,d5,d6⟩:=r2;clear zV zW zX zM A zR R f8 D H8 H2 l;go_wp2;refine bodyPost_ret (v:=.agg (Ye i (some ⟨k,0,none⟩) (b.length+1) cap (some ⟨y,0,none⟩) c.length q n m C)) (by simp[results,results130,go_sem,d0,d1,d2,d3,d4,d5]) rfl ?_;rw[HN.o];refine⟨k,cap,y,q,Yu,?_,?_,HP.o.2.2.1,?_⟩
 .rw[show(b++[s]).length=b.length+1 by simp];refine World.ownsRow.mono ?_ (show w.heap.size<=w.heap.size+3 by omega)
  iterate 6 (refine ownsRow_setCell_below ?_ Yu _)
  refine ownsRow_setCell_other ?_ (by simp[Value.ownBlock];omega) _;exact HP.o.1
 .refine World.ownsRow.mono ?_ (show w.heap.size<=w.heap.size+3 by omega)
  iterate 6 (refine ownsRow_setCell_below ?_ Yu _)
  refine ownsRow_setCell_other ?_ (by simp[Value.ownBlock];omega) _;exact HP.o.2.1
 .iterate 7 (refine Below.setCell ?_ Ym _)
  exact HP.o.2.2.2
section
attribute [local go_sem↓] Go.wp_at_zero Go.wp_at_succ
end
section
attribute [local go_sem↓] Go.wp_at_zero Go.wp_at_succ
theorem Sc{x:Zi}:x∈MQ (PA c) y↔∃u∈c,u.sum=y/\x∈u.B:=by
 unfold MQ PA;rw[List.mem_filterMap];constructor
 .rintro⟨p,a,e⟩;rw[List.mem_flatMap]at a;obtain⟨u,b,a⟩:=a;obtain⟨r,d,rfl⟩:=List.mem_map.1 a;split at e
  .rename_i h
   cases e;exact⟨u,b,h,d⟩
  .cases e
 .rintro⟨u,b,rfl,f⟩;exact⟨(u.sum,x),List.mem_flatMap.2 ⟨u,b,List.mem_map.2 ⟨x,f,rfl⟩⟩,Yu⟩
theorem TE{e:List Kd}:ReachE (PA e) d s↔Reach e d s:=by
 constructor
 .intro h;induction h with
  |here a=>exact .here a
  |step _ a ih=>obtain⟨u,c,b,a⟩:=Sc.1 a;exact .step ih c b a
 .intro h;induction h with
  |here a=>exact .here a
  |step _ c b a ih=>exact .step ih (Sc.2 ⟨_,c,b,a⟩)
theorem QD{e:Zl}(h:∀x,x∈e↔x∈d):Reach c e s↔Reach c d s:=by
 have go:∀{a b:Zl},(∀x,x∈a->x∈b)->∀{s:Zi},Reach c a s->Reach c b s:=fun {a b} hab {s} hr=>by
  induction hr with
  |here hx=>exact .here (hab _ hx)
  |step _ hu hs hx ih=>exact .step ih hu hs hx
 exact⟨go (fun x=>(h x).1),go (fun x=>(h x).2)⟩
structure Gp (wd:Int) (ks:List Kd) (ps:List Pd) (ls:List Ld):Prop where
 w8:wd<=8
 nk:ks.length<=600
 np:ps.length<=100
 nl:ls.length<=200
 di:∀k∈ks,k.B.length<=30
 sum:∀k∈ks,(k.sum.size:Int)=wd
 rsz:∀k∈ks,∀r∈k.B,(r.size:Int)=wd
 ref:∀k∈ks,∀r∈k.B,Ay ks r
 cv:∀p∈ps,Ay ks p.sum
 bj:∀l∈ls,Ay ks l.sum
 uniq:∀u∈ks,∀v∈ks,u.sum=v.sum->u=v
theorem Gp.roots{e:List Pd}{d:List Ld}(h:Gp f c e d)(a:s∈e.map (·.sum)++d.map (·.sum)):Ay c s:=by
 rcases List.mem_append.1 a with a|a
 .obtain⟨p,b,rfl⟩:=List.mem_map.1 a;exact h.cv p b
 .obtain⟨p,b,rfl⟩:=List.mem_map.1 a;exact h.bj p b
theorem Gp.dn{b:List Kd}{f:List Pd}{e:List Ld}(h:Gp g b f e){p:Zi×Zi}(a:p∈PA b):Ay b p.2:=by unfold PA at a;obtain⟨u,d,a⟩:=List.mem_flatMap.1 a;obtain⟨r,c,rfl⟩:=List.mem_map.1 a;exact h.ref u d r c
theorem UA{b:Nat}{d c a:Int}{T P L:Value}(h:Aq w b d now c a T P L):w.cell? (Zd b 0)=some (Zg d)/\w.cell? (Zd b 1)=some (Zg now)/\w.cell? (Zd b 2)=some (Zg c)/\w.cell? (Zd b 3)=some (Zg a)/\w.cell? (Zd b 4)=some T/\w.cell? (Zd b 5)=some P/\w.cell? (Zd b 6)=some L:=
 ⟨h.1,h.2.1,h.2.2.1,h.2.2.2.1,h.2.2.2.2.1,h.2.2.2.2.2.1,h.2.2.2.2.2.2.1⟩
end
theorem KX(h:∀(i:Nat) k,a[i]?=some k->DP f a i k):∀(d i:Nat) u v,a[i]?=some u->a[i+d+1]?=some v->less u.sum v.sum=true:=by
 intro d;induction d with
 |zero=>intro i u v c b;exact(h _ _ b).up _ _ rfl c
 |succ d ih=>intro i u v c b;have g:=(Zw b).1;have e:a[i+d+1]?=some a[i+d+1]:=Zv Yv;exact BI (ih i u _ c e) ((h _ _ b).up _ _ Yv e)
theorem DC{d c:Int}{s:List Pd}{q:List Ld}(h:AI g now d c ks s q):Gp g ks s q:=by
 have t:∀k∈ks,Az k.F k.B g=true:=fun k b=>by obtain⟨i,a⟩:=List.getElem?_of_mem b;exact(h.th i k a).ok
 refine⟨h.bh.gn,h.nth,h.np,h.nl,fun k b=>(AV (t k b)).B,fun k b=> ?_,fun k b r n=> ?_,fun k b r n=> ?_,fun p z=> ?_,fun l y=> ?_,fun u o v A e=> ?_⟩
 .obtain⟨i,a⟩:=List.getElem?_of_mem b;rw[(h.th i k a).sum];exact Eg k g h.bh.gj
 .obtain⟨i,a⟩:=List.getElem?_of_mem n;exact(AV (t k b)).size a
 .obtain⟨i,a⟩:=List.getElem?_of_mem b;obtain⟨u,o,x,_⟩:=h.ref i k a r n;exact⟨u,o,x⟩
 .obtain⟨i,a⟩:=List.getElem?_of_mem z;exact(h.cv i p a).sum
 .obtain⟨i,a⟩:=List.getElem?_of_mem y;exact(h.bj i l a).sum
 .obtain⟨i,a⟩:=List.getElem?_of_mem o;obtain⟨j,f⟩:=List.getElem?_of_mem A;rcases Nat.lt_trichotomy i j with m|m|m
  .have:=KX h.th (j -i -1) i u v a (by rw[show i+(j -i -1)+1=j by omega];exact f);rw[e,BA]at this;cases this
  .subst m;rw[a]at f;exact Option.some.inj f
  .have:=KX h.th (i -j -1) j v u f (by rw[show j+(i -j -1)+1=i by omega];exact a);rw[e,BA]at this;cases this
def Ba(ps:List Pd)(ls:List Ld):Zl:=ps.map (·.sum)++ls.map (·.sum)
section
attribute [local go_sem↓] Go.wp_at_zero Go.wp_at_succ
theorem Sd(l:Zl)(x:Zi):x∈Cy l x:=by
 unfold Cy;split
 .rename_i h
  exact Zs h
 .simp
theorem TF{l:Zl}{x:Zi}(h:y∈l):y∈Cy l x:=by
 unfold Cy;split
 .exact h
 .have:=List.take_append_drop (Dn l x) l;rw[<-this]at h;rcases List.mem_append.1 h with h|h
  .simp[h]
  .simp[h]
theorem GN{a:Zl}:y∈Be a↔y∈a:=by
 refine⟨Rn,fun h=> ?_⟩;have go:∀(a b:Zl),(y∈b\/y∈a)->y∈a.foldl Cy b:=by
  intro a;induction a with
  |nil=>intro b h;simpa using h
  |cons x xs ih=>
   intro b h;refine ih _ ?_;rcases h with h|h
   .exact .inl (TF h)
   .rcases List.mem_cons.1 h with rfl|h
    .exact .inl (Sd _ _)
    .exact .inr h
 exact go a [] (.inr h)
theorem Ik{a:List Ld}{x:Zi}:x∈Br b a↔x∈Ba b a:=by unfold Br Ba;rw[CZ,CZ,List.mem_append];simp
theorem QE{a:List Pd}{b:List Ld}(f:a.length<=100)(e:b.length<=200):(Br a b).length<=300:=by unfold Br;have c:=CB (b.map (·.sum)) ((a.map (·.sum)).foldl Av []);have d:=CB (a.map (·.sum)) [];simp at c d;omega
structure Se (ks:List Kd) (fr:Zl) (w:Zh) (e:Ending) (w':Zh):Prop where
 ex:∃g c R,e=.returned (.slice (some ⟨g,0,none⟩) (Be R).length c)/\w'.ownsRow w.heap.size 9 1 (.slice (some ⟨g,0,none⟩) (Be R).length c) (Be R).length ((Be R).map Value.string)/\(∀s,s∈R↔Reach ks fr s)/\R.Nodup/\R.length<=20000/\Zz w w'
theorem Mo(h now c b:Int)(a p l:Zk)(k n m:Nat)(ks:List Kd)(d:List Pd)(f:List Ld)(w:Zh)(t:AW w w.heap.size a p l ks d f)(hk:Ez ks)(hp:Gc d)(hf:EZ ks d f)(v:AI h now c b ks d f):
 Calls prog 7 #[.agg (Yg h now c b a ks.length k p d.length n l f.length m)] w fun e i=>Se ks (Ba d f) w e i:=by
 obtain⟨r,q⟩:=Af (w.alloc (.cells (Yg h now c b a ks.length k p d.length n l f.length m) 27));have T:Below w.heap.size w r:=by rw[q];exact Zy
 have z1:r.heap.size=w.heap.size+1:=by rw[q];simp
 have Z:Aq r w.heap.size h now c b (.slice a ks.length k) (.slice p d.length n) (.slice l f.length m):=by rw[q];exact Aq.new w h now c b _ _ _ 27
 have D:=Yw q;have B:=Yw t;have Q:=Yw (Zn hk (Zn hp hf));have HX:=Yw Z;have S:=Yw (DC v);have HP:=Yw v;have zC:=v.nth;have L:=v.np;have K:=v.nl;obtain⟨x0,x1,x2,x3,x4,x5,x6,x7⟩:=Z;clear q t hk hp hf v;go_enter func7,ntmps7;go_upto_region 1 with fail;rw[<-D.o];clear D;go_wp2_with fail;refine(DT h now c b a p l k n m ks d f r (AW.L B.o T) Q.o.1 Q.o.2.1 Q.o.2.2).mono ?_;rintro e g ⟨b2,rfl,P,y⟩
 have C:b2=true:=P.2 HP.o;subst C;have z2:=y.size;have j:Below w.heap.size w g:=T.trans (y.mono T.size);have u:Hid (Aq g w.heap.size h now c b (.slice a ks.length k) (.slice p d.length n) (.slice l f.length m)):=Aq.ah HX.o y Yv;have kD:Below g.heap.size g g.drew:=Ad.drew;have zB:=UA (Aq.ah u.o kD Yv);have zE:=QE L K;clear P y x0 x1 x2 x3 x4 x5 x6 x7
 go_upto_region 3 with fail;go_region_held3 (fun i=>i.cell? (Zd (w.heap.size) 0)=some (Zg h)/\i.cell? (Zd (w.heap.size) 1)=some (Zg now)/\i.cell? (Zd (w.heap.size) 2)=some (Zg c)/\i.cell? (Zd (w.heap.size) 3)=some (Zg b)/\i.cell? (Zd (w.heap.size) 4)=some (.slice a ks.length k)/\i.cell? (Zd (w.heap.size) 5)=some (.slice p d.length n)/\i.cell? (Zd (w.heap.size) 6)=some (.slice l f.length m))
  (first|exact zB|exact E|exact F|exact G)
  (first
    |(go_at_call 26;refine(KQ h now c b _ p l n m d f g.drew (AW.L B.o j.drew).p (AW.L B.o j.drew).l L K).mono ?_;rintro e V ⟨g3,c3,rfl,M,H⟩;have z:Below g.heap.size g V:=kD.trans (H.mono (Zx));have E:=UA (Aq.ah u.o z Yv);have X:Below w.heap.size w V:=j.trans (z.mono j.size))
    |(go_at_call 25;refine(QA h now c b a k _ _ ks _ c3 (Br d f) V (AW.L B.o X).k (Ab.own M) zC zE S.o.di S.o.uniq).mono ?_;rintro e W ⟨g4,c4,R,rfl,N,o,I⟩;have A:Below g.heap.size g W:=z.trans (I.mono z.size);have F:=UA (Aq.ah u.o A Yv);have zA:R.length<=20000:=(by have h1:=Da o.nd o.cw;have h2:=JJ (ks:=ks) (from':=Br d f) S.o.di;omega);have Y:Below w.heap.size w W:=j.trans (A.mono j.size))
    |(go_at_call 24;refine(FM _ c4 R W (Ab.own N) Yv).mono ?_;rintro e w5 ⟨g5,c5,rfl,O,J⟩;have U:Below g.heap.size g w5:=A.trans (J.mono A.size);have G:=UA (Aq.ah u.o U Yv);have HF:Hid (Se ks (Ba d f) w (.returned (Yz g5 (Be R).length c5)) w5):=⟨g5,c5,R,rfl,O.mono Y.size,(fun s=>o.reach.trans (QD (fun x=>Ik))),o.nd,zA,j.trans (U.mono j.size)⟩))
 all_goals
  clear E F G M N O o H I J z A U X Y;go_wp2;go_ret;exact HF.o
end
section
attribute [local go_sem↓] Go.wp_at_zero Go.wp_at_succ
end
section
attribute [local go_sem↓] Go.wp_at_zero Go.wp_at_succ
end
section
open Go.Proofs
theorem Sf{α:Type}{lt:α->α->Prop}(d:∀a,¬lt a a)(j:∀a b c,lt a b->lt b c->lt a c):∀(l1 l2:List α),l1.Pairwise lt->l2.Pairwise lt->(∀x,x∈l1↔x∈l2)->l1=l2
 |[],[],_,_,_=>rfl
 |[],b::l2,_,_,h=>by have:=(h b).2 Yu;simp at this
 |a::l1,[],_,_,h=>by have:=(h a).1 Yu;simp at this
 |a::l1,b::l2,h1,h2,h=>by
  obtain⟨g,n⟩:=List.pairwise_cons.1 h1;obtain⟨i,o⟩:=List.pairwise_cons.1 h2;have k:a=b:=by
   rcases List.mem_cons.1 ((h a).1 Yu)with e|l
   .exact e
   .rcases List.mem_cons.1 ((h b).2 Yu)with e|m
    .exact e.symm
    .exact absurd (j _ _ _ (g b m) (i a l)) (d a)
  subst k;rw[Sf d j l1 l2 n o (fun x=>⟨fun f=>((List.mem_cons.1 ((h x).1 (List.mem_cons_of_mem _ f))).resolve_left (fun e=>d a (e▸g x f))),fun f=>((List.mem_cons.1 ((h x).2 (List.mem_cons_of_mem _ f))).resolve_left (fun e=>d a (e▸i x f)))⟩)]
theorem TG(x:Zi):Cy [] x=[x]:=by simp[Cy,Dn]
theorem Sg(y:Zi)(l:Zl)(x:Zi):Cy (y::l) x=if JE y x=true then y::Cy l x else if y=x then y::l else x::y::l:=by
 unfold Cy;by_cases h:JE y x=true
 .rw[if_pos h];have e:Dn (y::l) x=Dn l x+1:=by rw[Dn,if_pos h]
  rw[e];by_cases h2:l[Dn l x]?=some x
  .simp[h2]
  .simp[h2]
 .rw[if_neg h];have e:Dn (y::l) x=0:=by rw[Dn,if_neg h]
  rw[e];by_cases h2:y=x
  .simp[h2]
  .simp[h2]
theorem NN{x:Zi}:∀{l:Zl},l.Pairwise (fun a b=>less a b=true)->(Cy l x).Pairwise (fun a b=>less a b=true)
 |[],_=>by rw[TG];simp
 |y::l,h=>by
  obtain⟨p,q⟩:=List.pairwise_cons.1 h;rw[Sg];split
  .rename_i hl
   refine List.pairwise_cons.2 ⟨fun z c=> ?_,NN q⟩;rcases Nf c with c|rfl
   .exact p z c
   .exact hl
  .rename_i hl
   split
   .exact h
   .rename_i hne
    have d:less x y=true:=Kc (by cases hh:less y x with|false=>rfl|true=>exact absurd hh hl) hne;refine List.pairwise_cons.2 ⟨fun z c=> ?_,h⟩;rcases List.mem_cons.1 c with rfl|c
    .exact d
    .exact BI d (p z c)
theorem GO(c:Zl):(Be c).Pairwise (fun a b=>less a b=true):=by
 unfold Be;have go:∀(c l:Zl),l.Pairwise (fun a b=>less a b=true)->(c.foldl Cy l).Pairwise (fun a b=>less a b=true):=by
  intro c;induction c with
  |nil=>intro l h;exact h
  |cons x c ih=>intro l h;exact ih _ (NN h)
 exact go c [] .nil
end
section
attribute [local go_sem↓] Go.wp_at_zero Go.wp_at_succ
open Classical in
noncomputable def liveL (ks:List Kd) (fr:Zl):Zl:=Be ((ks.map (·.sum)).filter (fun s=>decide (Reach ks fr s)))
open Classical in
noncomputable def liveA (wd now given births:Int) (ks:List Kd) (ps:List Pd) (ls:List Ld):Zl:=if AI wd now given births ks ps ls then liveL ks (Ba ps ls)else []
open Classical in
theorem Mp{b:Zl}(c:∀s,Reach a b s->Ay a s):s∈(a.map (·.sum)).filter (fun s=>decide (Reach a b s))↔Reach a b s:=by rw[List.mem_filter];refine⟨fun h=>of_decide_eq_true h.2,fun h=>⟨?_,decide_eq_true h⟩⟩;obtain⟨u,d,rfl⟩:=c s h;exact List.mem_map.2 ⟨u,d,rfl⟩
theorem QF{R:Zl}(f:∀s,Reach c d s->Ay c s)(h:∀s,s∈R↔Reach c d s):Be R=liveL c d:=
 Sf (lt:=fun a b=>less a b=true) (fun a e=>by rw[BA]at e;cases e) (fun _ _ _ h k=>BI h k) _ _ (GO R) (GO _) (fun x=>by unfold liveL;rw[GN,GN,h,Mp f])
theorem Gp.live{a:List Ld}(h:Gp f ks b a):∀s,Reach ks (Ba b a) s->Ay ks s:=fun _ d=>
 OR (E:=PA ks) (fun _ e=>h.roots e) (fun _ c=>h.dn c) (TE.2 d)
theorem Sh(h now c b:Int)(a p l:Zk)(m o n:Nat)(d:List Kd)(f:List Pd)(g:List Ld)(w:Zh)(i:AW w w.heap.size a p l d f g)(A:Ez d)(B:Gc f)(z:EZ d f g):
 Calls prog 7 #[.agg (Yg h now c b a d.length m p f.length o l g.length n)] w fun e E=>∃v,e=.returned v/\
  E.ownsRow w.heap.size 9 1 v (liveA h now c b d f g).length ((liveA h now c b d f g).map Value.string)/\Zz w E:=by
 by_cases hP:AI h now c b d f g
 .refine(Mo h now c b a p l m o n d f g w i A B z hP).mono ?_;rintro e W ⟨V,U,R,rfl,H,r,T,S,G⟩;refine⟨_,rfl,?_,G⟩;unfold liveA;rw[if_pos hP,<-QF (DC hP).live r];exact H
 .obtain⟨k,j⟩:=Af (w.alloc (.cells (Yg h now c b a d.length m p f.length o l g.length n) 27));have y:Below w.heap.size w k:=by rw[j];exact Zy
  have I:Aq k w.heap.size h now c b (.slice a d.length m) (.slice p f.length o) (.slice l g.length n):=by rw[j];exact Aq.new w h now c b _ _ _ 27
  have s:=Yw j;have HN:=Yw hP;obtain⟨J,K,L,M,N,O,P,Q⟩:=I;have C:=Yw (DT h now c b a p l m o n d f g k (AW.L i y) A B z);clear j i A B z hP;go_enter func7,ntmps7;go_upto_region 1 with fail;rw[<-s.o];clear s;go_wp2_with fail;refine C.Am ?_;rintro e F ⟨D,rfl,u,t⟩;have q:D=false:=by
   cases D with
   |false=>rfl
   |true=>exact absurd (u.1 rfl) HN.o
  subst q;have x:Below w.heap.size w F:=y.trans (t.mono y.size);clear u t J K L M N O P Q C;go_wp2;go_ret;refine⟨_,rfl,?_,x.alloc x.size _⟩;unfold liveA;rw[if_neg HN.o];exact World.ownsRow_lit (base:=w.heap.size) (e:=9) (size:=1) F #[] 0 x.size Yo rfl
end
section
attribute [local go_sem↓] Go.wp_at_zero Go.wp_at_succ
end
section
attribute [local go_sem↓] Go.wp_at_zero Go.wp_at_succ
open Classical in
noncomputable def wasteK (ks ks':List Kd) (fr:Zl):Zl:=(ks'.filter (fun k=>decide (¬Reach ks fr k.sum))).map (·.sum)
theorem KY(h:a[k]?=some x)(c:Reach ks fr x.sum):wasteK ks (a.take (k+1)) fr=wasteK ks (a.take k) fr:=by obtain⟨b,rfl⟩:=Zw h;unfold wasteK;rw[Zu b,List.filter_append,List.map_append];simp[c]
theorem LB(h:a[k]?=some x)(c:¬Reach ks fr x.sum):wasteK ks (a.take (k+1)) fr=wasteK ks (a.take k) fr++[x.sum]:=by obtain⟨b,rfl⟩:=Zw h;unfold wasteK;rw[Zu b,List.filter_append,List.map_append];simp[c]
theorem QG(c a:List Kd)(b:Zl):(wasteK c a b).length<=a.length:=by unfold wasteK;rw[List.length_map];exact List.length_filter_le _ _
open Classical in
noncomputable def wasteA (wd now given births:Int) (ks:List Kd) (ps:List Pd) (ls:List Ld):Zl:=if AI wd now given births ks ps ls then wasteK ks ks (Ba ps ls)else []
end
section
attribute [local go_sem↓] Go.wp_at_zero Go.wp_at_succ
theorem Ab.farO{c:Zh}{B g:Nat}{a:Zl}{row:Option Nat}(h:Ab w B (some ⟨g,0,none⟩) a)(m:w.grownBy c row)(f:row≠some g)(d:g<w.heap.size):Ab c B (some ⟨g,0,none⟩) a:=by
 rcases h with h|⟨b,off,j,k,l⟩
 .exact .inl h
 .cases j;exact .inr ⟨g,0,rfl,k,fun i s n=>(m.cell_far ⟨g,0+i,none⟩ d (fun e=>f e.symm)).trans (l i s n)⟩
theorem QH(j now d c:Int)(a p l:Zk)(n t r:Nat)(ks:List Kd)(f:List Pd)(g:List Ld)(w:Zh)(J:AW w w.heap.size a p l ks f g)(hk:Ez ks)(hp:Gc f)(hf:EZ ks f g):
 Calls prog 8 #[.agg (Yg j now d c a ks.length n p f.length t l g.length r)] w fun e w'=>∃v,e=.returned v/\
  w'.ownsRow w.heap.size 9 1 v (wasteA j now d c ks f g).length ((wasteA j now d c ks f g).map Value.string)/\Zz w w':=by
 obtain⟨i0,hi,zN,zO,zP⟩:=info_parts BO;obtain⟨B,D⟩:=Af (w.alloc (.cells (Yg j now d c a ks.length n p f.length t l g.length r) 27));have b0:Below w.heap.size w B:=by rw[D];exact Zy
 have z0:B.heap.size=w.heap.size+1:=by rw[D];simp
 have X0:Aq B w.heap.size j now d c (.slice a ks.length n) (.slice p f.length t) (.slice l g.length r):=by rw[D];exact Aq.new w j now d c _ _ _ 27
 obtain⟨z,E⟩:=Af (B.alloc (.cells #[] 9));have X:Below B.heap.size B z:=by rw[E];exact Zy
 have b1:Below w.heap.size w z:=b0.trans (X.mono b0.size);have z1:z.heap.size=w.heap.size+2:=by rw[E];simp[z0]
 have O1:z.ownsRow (w.heap.size+1) 9 1 (Yz (w.heap.size+1) 0 0) 0 (([]:Zl).map Value.string):=by have:=World.ownsRow_lit (base:=w.heap.size+1) (e:=9) (size:=1) B #[] 0 Yv Yo rfl;rw[z0]at this;rw[E];exact this
 have zC:Hid (z=(w.alloc (.cells (Yg j now d c a ks.length n p f.length t l g.length r) 27)).alloc (.cells #[] 9)):=by show _=_;rw[E,D]
 have HR:=Yw J;have K:=Yw (Zn hk (Zn hp hf));have X1:=X0.ah X Yv;have HX:=Yw X1;have zB:=Yw O1;obtain⟨x0,x1,x2,x3,x4,x5,x6,x7⟩:=X1;clear E D J hk hp hf X0 O1 X b0 z0;go_enter func8,ntmps8;go_upto_region 2 with fail;rw[<-zC.o];clear zC;go_wp2_with fail;refine(DT j now d c a p l n t r ks f g z (AW.L HR.o b1) K.o.1 K.o.2.1 K.o.2.2).mono ?_;rintro e w2 ⟨b2,rfl,M,F⟩;have z2:=F.size
 have Z:Below w.heap.size w w2:=b1.trans (F.mono b1.size);have V:Hid (Aq w2 w.heap.size j now d c (.slice a ks.length n) (.slice p f.length t) (.slice l g.length r)):=Aq.ah HX.o F Yv;have T:Hid (w2.ownsRow (w.heap.size+1) 9 1 (Yz (w.heap.size+1) 0 0) 0 (([]:Zl).map Value.string)):=World.ownsRow.kept zB.o (Ak none F) (Classical.em _);clear x0 x1 x2 x3 x4 x5 x6 x7 zB HX F;cases b2 with
 |false=>
  have HN:Hid (¬AI j now d c ks f g):=fun h=>by have:=M.2 h;cases this
  clear M;go_wp2;go_ret;refine⟨_,rfl,?_,Z⟩;unfold wasteA;rw[if_neg HN.o];exact World.ownsRow.mono T.o Yv
 |true=>
  have hP:=M.1 rfl;have HP:=Yw hP;have zW:=hP.nth;obtain⟨x0,x1,x2,x3,x4,x5,x6,x7⟩:=V.o;clear M hP;go_wp2_with fail;refine(Mo j now d c a p l n t r ks f g w2 (AW.L HR.o Z) K.o.1 K.o.2.1 K.o.2.2 HP.o).mono ?_;rintro e N ⟨H,cl,R,rfl,Y,I,zM,zS,G⟩;have z4:=G.size;have B4:Below w.heap.size w N:=Z.trans (G.mono Z.size)
  have zJ:Hid (Aq N w.heap.size j now d c (.slice a ks.length n) (.slice p f.length t) (.slice l g.length r)):=Aq.ah V.o G Yv;have zG:Hid (N.ownsRow (w.heap.size+1) 9 1 (Yz (w.heap.size+1) 0 0) 0 (([]:Zl).map Value.string)):=World.ownsRow.kept T.o (Ak none G) (Classical.em _);have zU:=Y.lt H rfl;have zH:Hid (Ab N N.heap.size (some ⟨H,0,none⟩) (Be R)):=Ab.own Y;have zX:=DW R
  have HI:Hid (∀s,(s∈Be R)↔Reach ks (Ba f g) s):=fun s=>GN.trans (I s);generalize Be R=R' at *
  clear Y I zM V T G x0 x1 x2 x3 x4 x5 x6 x7;go_wp2
  go_loopw [3,5] (fun v i wr=>∃(k:Nat),k<=ks.length/\i=Zg k/\Hid (wr.ownsRow (w.heap.size+1) 9 1 v (wasteK ks (ks.take k) (Ba f g)).length ((wasteK ks (ks.take k) (Ba f g)).map Value.string))/\Hid (v.ownBlock≠some H)/\Hid (Ab wr wr.heap.size (some ⟨H,0,none⟩) R')/\Zz w wr/\Hid (Aq wr w.heap.size j now d c (.slice a ks.length n) (.slice p f.length t) (.slice l g.length r))/\N.heap.size<=wr.heap.size) (fun _ i _=>ks.length -(intOf i).toNat)
  case atStart=>exact⟨0,Nat.zero_le _,rfl,zG,(fun e=>by simp[Value.ownBlock]at e;omega),zH,B4,zJ,Zx⟩
  case round=>
   obtain⟨k,zV,rfl,C,S,U,O,W,z6⟩:=hrel;obtain⟨x0,x1,x2,x3,x4,x5,x6,x7⟩:=W.o;by_cases hlt:k<ks.length
   .obtain⟨b,off,ha,hb,hc⟩:=(AQ.below HR.o.k O).at hlt;subst ha;have HG:Hid (ks[k]?=some ks[k]):=Zv hlt;obtain⟨c0,_⟩:=hc k _ HG.o;have zT:b<wr.heap.size:=by have:=O.size;omega
    clear hc;generalize ks[k]=x at *
    have zY:=QG ks (ks.take k) (Ba f g);have zR:(ks.take k).length<=600:=Yt
    go_wp2_with fail;refine(Dq _ cl R' x.sum wr _ U.o Yv).mono ?_;rintro e w7 ⟨rfl,zF⟩;rw[zF];clear zF w7;have o:(R'.any (fun y=>decide (y=x.sum)))=true↔Reach ks (Ba f g) x.sum:=by rw[<-HI.o];simp
    cases hin:R'.any (fun y=>decide (y=x.sum))with
    |true=>
     have HE:=Yw (KY (ks:=ks) (fr:=Ba f g) HG.o (o.1 hin));have Q:Hid (wr.ownsRow (w.heap.size+1) 9 1 u3 (wasteK ks (ks.take (k+1)) (Ba f g)).length ((wasteK ks (ks.take (k+1)) (Ba f g)).map Value.string)):=by rw[HE.o];exact C
     clear o;go_wp2;exact⟨⟨k+1,Yv,Yn,Q,S,U,O,W,z6⟩,Ys⟩
    |false=>
     have HE:=Yw (LB (ks:=ks) (fr:=Ba f g) HG.o (fun h=>by have:=o.2 h;rw[hin]at this;cases this));clear o;go_wp2_with (first
      |(at_builtin;refine wpList_append_own_at _ rfl _ _ 29 rfl (w.heap.size+1) 9 i0 Zc 1 16 underlying29 hi zN zO zP rfl Yq _ (wasteK ks (ks.take k) (Ba f g)).length ((wasteK ks (ks.take k) (Ba f g)).map Value.string) rfl ?d0 ⟨wr.heap.size,0,none⟩ 1 1 [.string x.sum] rfl rfl ?d1 ?d2 ?d3 ?d4 ?d5 ?_)
      |go_in)
     case d0=>exact World.ownsRow.alloc C.o _
     case d1=>exact cell_one_new _ _ _
     case d2=>intro u hu;simp at hu;subst hu;rfl
     case d3=>unfold maxLen;omega
     case d4=>omega
     case d5=>simp;omega
     intro v' P A m _ zE;have L:Below (w.heap.size+1) wr P:=(Ad.alloc Yv _).grown m Yt (fun q hq=>(World.ownsRow.lt C.o q hq).1);have Q:Hid (P.ownsRow (w.heap.size+1) 9 1 v' (wasteK ks (ks.take (k+1)) (Ba f g)).length ((wasteK ks (ks.take (k+1)) (Ba f g)).map Value.string)):=by rw[HE.o,List.length_append,List.map_append];exact A
     have zA:Hid (v'.ownBlock≠some H):=fun e=>by
      rcases zE with h|h
      .exact S.o (h▸e)
      .rw[h]at e;simp at e;omega
     have zI:Hid (Ab P P.heap.size (some ⟨H,0,none⟩) R'):=by have h1:Ab (wr.alloc (.cells #[.string x.sum] 9)) wr.heap.size (some ⟨H,0,none⟩) R':=Ab.below U.o (Zy);exact(h1.farO m S.o Yt).mono L.size
     have zK:Hid (Aq P w.heap.size j now d c (.slice (some ⟨b,off,none⟩) ks.length n) (.slice p f.length t) (.slice l g.length r)):=Aq.ah W.o L Yv;have zZ:=L.size;clear A m zE;go_wp2;exact⟨⟨k+1,Yv,Yn,Q,zA,zI,O.trans (L.mono Yv),zK,Yv⟩,Ys⟩
   .rw[Zt Yv]at C;go_wp2;go_ret;refine⟨_,rfl,?_,O⟩;unfold wasteA;rw[if_pos HP.o];exact World.ownsRow.mono C.o Yv
end
end Go.Proofs.YtcfjcdpkpiidkaaGreat
