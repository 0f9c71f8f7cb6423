import Derived.Test.YtdofmfnmackjhaaGreatDoorX09
import Derived.Test.YtdofmfnmackjhaaGreatDoorX10
import Derived.Test.YtdofmfnmackjhaaGreatDoorX11
set_option maxRecDepth 100000
set_option maxHeartbeats 16000000
namespace Go.Proofs.YtdofmfnmackjhaaGreatDoor
open ChangeShapes WideShapes ChangeAt RowKit _root_.Go.Proofs.Tryz List World Value
variable{wd c e d f:Int}{a:Dj}{x:Kd}{w V:Zh}{u v T P L:Value}{b:Nat}{s:Zi}
section
attribute [local go_sem↓] Go.wp_at_zero Go.wp_at_succ
open Classical in
structure Uw (wd:Int) (qs ms:Zl):Prop where
 nq:qs.length<=23200
 nm:ms.length<=600
 q:∀s∈qs,(s.size:Int)=wd
 m:∀s∈ms,(s.size:Int)=wd
 nd:ms.Nodup
def MV(births ph top at_:Int)(qs ms:Zl):Prop:=
 (ph=0/\qs=[]/\ms=[]/\top=0/\at_=0)\/(ph=1/\0<=top/\top<=births/\at_=top+1)\/(ph=2/\0<=top/\top<=births/\1<=at_/\at_<=top+1)
structure Cc (wd births M top at_ ro:Int) (qs ms:Zl):Prop where
 jy:0<=ro
 kk:ro<=1000000000
 ft:Uw wd qs ms
 M:MV births M top at_ qs ms
end
theorem Ux(f c b a:Int)(T P L:D4)(w:Zh):
 D8 42 #[.agg #[Zg f,Zg c,Zg b,Zg a,T,P,L]] w λe d=>Ay (OQ f c b a) w d e:=by
 have d:Below w.1.size w (w.alloc (.cells #[Zg f,Zg c,Zg b,Zg a,T,P,L] 27)):=Zy;go_enter func42,ntmps42;go_wp2_with fail;refine(Sa f _).aj ?_;rintro e g ⟨rfl,rfl⟩;by_cases h0:1<=f/\f<=8
 .rw[decide_eq_true h0];go_wp2_with fail;refine(JH c _).aj ?_;rintro e g ⟨rfl,rfl⟩;by_cases h1:0<=c/\c<=1000000000
  .rw[decide_eq_true h1];go_wp2_with fail;refine(JH b _).aj ?_;rintro e g ⟨rfl,rfl⟩;by_cases h2:0<=b/\b<=1000000000
   .rw[decide_eq_true h2];go_wp2_with fail;refine(JH a _).aj ?_;rintro e g ⟨rfl,rfl⟩;by_cases h3:0<=a/\a<=1000000000
    .rw[decide_eq_true h3];go_wp2;go_ret;exact Ay.yes ⟨h0.1,h0.2,h1.1,h1.2,h2.1,h2.2,h3.1,h3.2⟩ d
    .rw[decide_eq_false h3];go_wp2;go_ret;exact Ay.no (λh=>h3 ⟨h.ai,h.ff⟩) d
   .rw[decide_eq_false h2];go_wp2;go_ret;exact Ay.no (λh=>h2 ⟨h.bh,h.gg⟩) d
  .rw[decide_eq_false h1];go_wp2;go_ret;exact Ay.no (λh=>h1 ⟨h.ct,h.ic⟩) d
 .rw[decide_eq_false h0];go_wp2;go_ret;exact Ay.no (λh=>h0 ⟨h.gm,h.ib⟩) d
theorem FC(g j c b:Int)(a p l:Zk)(H T S:Nat)(d:Dj)(B:Dy)(A:Dv)(w:Zh)(n:Bx w w.1.size a p l d B A)(hk:Iq d)(hp:IP B)(hl:La A)(F:JA d B A)(o:∀k∈d,(Lit.int .i64 k.born).wf=true):
 D8 11 #[.agg (Yg g j c b a d.length H p B.length T l A.length S)] w λe q=>Ay (AJ g j c b d B A) w q e:=by
 have zG:Below w.1.size w (w.alloc (.cells (C9 g j c b a d H p B T l A S) 27)):=Zy;have r:=Aw.new w g j c b (C1 a d H) (C1 p B T) (C1 l A S) 27;have zC:=Yw o;clear o;go_enter func11,ntmps11;go_wp2_with fail;refine(Ux g j c b _ _ _ _).aj ?_;rintro e w1 ⟨t,rfl,o,q⟩;have J:=zG.ah (q.aj Yu);have zI:=r.A q;clear q r;cases t with
 |false=>go_wp2;go_ret;exact Ay.no (λh=>by have:=o.2 h.bn;cases this) J
 |true=>
  have E:=o.1 rfl;clear o;obtain⟨o,q,r,t,u,v,x,y⟩:=zI;go_wp2_with fail;refine(Lh g j c b a H _ _ d _ (n.T J).k hk F.k F.r E.gm E.ib).aj ?_;rintro e w2 ⟨D,rfl,z,C⟩;have K:=J.ah (C.aj J.size);have zJ:=Aw.A ⟨o,q,r,t,u,v,x,y⟩ C;clear C o q r t u v x y;cases D with
  |false=>go_wp2;go_ret;exact Ay.no (λh=>by have:=z.2 ⟨h.nth,h.th⟩;cases this) K
  |true=>
   have⟨hn,C⟩:=z.1 rfl;have X:=Yw C;clear z;have z:∀k∈d,(k.sum.size:Int)=g:=λk D=>by have⟨i,hi⟩:=A5 D;rw[(C i k hi).sum];exact Fx k g E.gm
   have G:=Yw z;clear C z;obtain⟨o,q,r,t,u,v,x,y⟩:=zJ;go_wp2_with fail;refine(Gf g j c b a H _ _ d _ (n.T K).k F.k G E.ib).aj ?_;rintro e O ⟨m,f,rfl,hm,N,D,C⟩;have z:=K.ah (C.aj K.size);have zA:=Aw.A ⟨o,q,r,t,u,v,x,y⟩ C;have z3:=C.size;have HH:=Yw D;clear C o q r t u v x y D;have⟨M,C⟩:=D6 O #[Zg g,.map (some m)] 81
   have I:Below O.1.size O M:=by rw[C];exact Zy
   have s3:M.1.size=O.1.size+1:=by rw[C];simp
   have Q:EG M O.1.size g m:=by rw[C];exact EG.new _ _ _ _
   have D:=zA.A I;have L:=N.ag I N.lt;have z:=z.ah (I.aj z.size);have P:=Yw C;clear C I N;obtain⟨o,q,r,t,u,v,x,y⟩:=zA;have N:=Yw (Zn D Q);clear D Q;go_wp2_with fail;rw[<-P.o];refine(Ll g j c b _ _ a H m d M (n.T z).k F.k F.r zC X (λs=>LM g m _ f d _ _ s M L HH G)).aj ?_;rintro e w4 ⟨R,rfl,Q,D⟩;have I:=z.ah (D.aj z.size);have W:=Aw.A N.1 D;have Z:=EG.ag N.2 D N.2.2.2
   have C:=L.ag D L.lt;clear D o q r t u v x y P L N;have U:=Yw Q;clear Q;cases R with
   |false=>clear W Z C;go_wp2;go_ret;exact Ay.no (λh=>by have:=U.2 ⟨h.born,h.ref⟩;cases this) I
   |true=>
    have⟨D,L⟩:=U.1 rfl;have V:=Yw (Zn D L);clear D L;obtain⟨o,q,r,t,u,v,x,y⟩:=W;obtain⟨Q,R,N⟩:=Z;go_wp2_with fail;refine(MQ g j c b _ _ _ p T m d B w4 (n.T I).p hp F.p (λs=>Fm g m _ f d _ _ s w4 C HH G) rfl).aj ?_;rintro e w5 ⟨b5,rfl,Y,D⟩;have L:=I.ah (D.aj I.size);have zB:=Aw.A ⟨o,q,r,t,u,v,x,y⟩ D;have k:=EG.ag ⟨Q,R,N⟩ D N;have P:=C.ag D C.lt;clear D o q r t u v x y Q R N C
    have C:=Yw Y;clear Y;cases b5 with
    |false=>clear zB k P;go_wp2;go_ret;exact Ay.no (λh=>by have:=C.2 ⟨h.np,h.cj⟩;cases this) L
    |true=>
     have⟨zH,D⟩:=C.1 rfl;have zE:=Yw D;clear D;obtain⟨o,q,r,t,u,v,x,y⟩:=zB;obtain⟨Q,R,N⟩:=k;go_wp2_with fail;refine(Li g j c b _ _ _ l S m d A w5 (n.T L).l hl F.l E.ct E.ic (λs=>Fm g m _ f d _ _ s w5 P HH G) rfl).aj ?_;rintro e w6 ⟨b6,rfl,Y,s⟩;have zF:=L.ah (s.aj L.size);have D:=Yw Y;clear Y o q r t u v x y Q R N P s;go_wp2;go_ret
     refine⟨_,rfl,⟨λh=> ?_,λh=>D.2 ⟨h.nl,h.bu⟩⟩,zF⟩;have⟨q,o⟩:=D.1 h;exact⟨E,hn,zH,q,X,V.1,V.2,zE,o⟩
theorem Mh(s f c d:Int)(a p l:Zk)(H X W:Nat)(q:Dj)(m:Dy)(o:Dv)(w:Zh)(g:Bx w w.1.size a p l q m o)(hk:Iq q)(hp:IP m)(hf:JA q m o):
 D8 28 #[.agg (Yg s f c d a q.length H p m.length X l o.length W)] w λe S=>Ay (AJ s f c d q m o) w S e:=by
 have F:Below w.1.size w (w.alloc (.cells (C9 s f c d a q H p m X l o W) 27)):=Zy;have v:=Aw.new w s f c d (C1 a q H) (C1 p m X) (C1 l o W) 27;have yB:=hf.k;have yD:=hf.p;have yC:=hf.l;have zV:=Yw g;have zR:=Yw g.k;have zU:=Yw g.p;have zT:=Yw g.l;clear g;go_enter func28,ntmps28;go_wp2_with fail;refine(Fy s _).aj ?_;rintro e w1 ⟨rfl,rfl⟩
 by_cases h0:1<=s/\s<=8
 .rw[decide_eq_true h0];go_wp2_with fail;refine(CS f 0 1000000000 _).aj ?_;rintro e w1 ⟨rfl,rfl⟩;by_cases h1:0<=f/\f<=1000000000
  .rw[decide_eq_true h1];go_wp2_with fail;refine(CS c 0 1000000000 _).aj ?_;rintro e w1 ⟨rfl,rfl⟩;by_cases h2:0<=c/\c<=1000000000
   .rw[decide_eq_true h2];go_wp2_with fail;refine(CS d 0 1000000000 _).aj ?_;rintro e w1 ⟨rfl,rfl⟩;by_cases h3:0<=d/\d<=1000000000
    .rw[decide_eq_true h3];have hN:OQ s f c d:=⟨h0.1,h0.2,h1.1,h1.2,h2.1,h2.2,h3.1,h3.2⟩;by_cases hn1:q.length<=600
     .have zM:decide ((600:Int)<(q.length:Int))=false:=Yt
      by_cases hn2:m.length<=100
      .have zN:decide ((100:Int)<(m.length:Int))=false:=Yt
       by_cases hn3:o.length<=200
       .have zO:decide ((200:Int)<(o.length:Int))=false:=Yt
        go_wp2_with fail;refine(QO s f c d a H _ _ q _ (Bx.T zV F).k hk hn1 hf.r hN.gm hN.ib).aj ?_;rintro e w2 ⟨A,rfl,z,t⟩;have r:=F.ah (t.aj Yu);have zS:=v.A t;have g:=Yw z;clear t z F v;cases A with
        |false=>clear zS;go_wp2;go_ret;exact Ay.no (λh=>by have:=g.2 ⟨h.th,h.born,h.ref⟩;cases this) r
        |true=>
         have zH:=Yw (g.1 rfl);clear g;obtain⟨J,K,L,M,N,O,P,z⟩:=zS;have g:=Yw (Za J (Za K (Za L (Za M (Za N (Za O (Za P z)))))));go_wp2
         go_loopw [3] (λi wr=>∃k:Nat,k<=m.length/\i=Zg k/\Zz w wr/\Hid (Aw wr w.1.size s f c d (C1 a q H) (C1 p m X) (C1 l o W))/\Hid (∀(j:Nat) x,j<k->m[j]?=some x->EP q m j x)) (λi _=>m.length -(intOf i).toNat)
         case atStart=>exact⟨0,Az _,rfl,r,g,λj x h=>Yv⟩
         case round=>
          clear J K L M N O P z g r;obtain⟨k,zY,rfl,g,HX,t⟩:=hrel;have⟨J,K,L,M,N,O,P,z⟩:=HX.o;by_cases hlt:k<m.length
          .obtain⟨b,zE,ha,hb,hc⟩:=(AU.A zU g).at hlt;subst ha;have R:m[k]?=some m[k]:=Zv hlt;obtain⟨c0,c1⟩:=hc k _ R;have m1:=hp.name _ (getElem_mem hlt);have zB:b<wr.1.size:=Yv
           cases k
           case' zero=>
            have A:=Yw R;clear hc R HX;simp only[Nat.zero_mul,Nat.add_zero]at c0 c1;generalize m[0]=x at *
            have HU:Hid (∀(D:Nat) E,0=D+1->m[D]?=some E->less E.name x.name=true):=λD E h=>Yv
            have zA:Hid (EP q m (0) x->∀(r:Nat) y,r<0+1->m[r]?=some y->EP q m r y):=λv r y hj C=>by
             rcases Bz r (0)with Q|Q
             .exact t r y Q C
             .obtain rfl:r=0:=Yv
              rw[A.o]at C;cases C;exact v
           case' succ j=>
            have A:=Yw R;have Z:Hid (m[j]?=some m[j]):=Zv Yv;obtain⟨d0,_⟩:=hc j _ Z;clear hc R HX;generalize m[j+1]=x at *
            generalize m[j]=p at *
            have yA:IntKind.i64.wrap (j:Int)=(j:Int):=wrap_small Yv Yv;have zW:(0:Int)<=(j:Int):=Yv
            have zX:(j:Int)<(m.length:Int):=Yv
            have yE:(0:Int)<=(j:Int)+1:=Yv
            have yF:(j:Int)+1<(m.length:Int):=Yv
            have zA:Hid (EP q m (j+1) x->∀(r:Nat) y,r<(j+1)+1->m[r]?=some y->EP q m r y):=λv r y hj C=>by
             rcases Bz r (j+1)with Q|Q
             .exact t r y Q C
             .obtain rfl:r=j+1:=Yv
              rw[A.o]at C;cases C;exact v
           all_goals
            go_wp2;have q0:=Ao.cell J z;have q1:=Ao.cell K z;have q2:=Ao.cell L z;have q3:=Ao.cell M z;have q4:=Ao.cell N z;have q5:=Ao.cell O z;have q6:=Ao.cell P z;have q7:=Ao.cell c0 zB;have q8:=Ao.cell c1 zB;try have q9:=Ao.cell d0 zB
            have zZ:=Ao.ne wr;have hV:∀n:Ao wr,D8 66 #[C4 x.name] n.w λe S=>e=C5 (.bool (Ck x.name))/\Below n.w.1.size n.w S:=λn=>(Ns _ _ m1).aj (by rintro e S ⟨rfl,rfl⟩;exact⟨rfl,Ad⟩)
            have hF:∀n:Ao wr,D8 67 #[.agg (C9 s f c d a q H (some ⟨b,zE,none⟩) m X l o W),C4 x.sum] n.w λe S=>e=C5 (Zg (Cu q x.sum))/\Below n.w.1.size n.w S:=λn=>Dk s f c d a H _ _ q x.sum n.w w.1.size (AW.A zR (g.ah (n.h.aj g.size))) (Dz n.h.size) Yv;have I:=Yw hV;have Y:=Yw hF
            have G:w.1.size<=wr.1.size:=g.size;have zF:=Yw (Za J (Za K (Za L (Za M (Za N (Za O (Za P z)))))));clear hV hF
           all_goals first
            |(have V:=Z
              clear V;cases hless:Op.bytesLess p.name.toList x.name.toList
              case' true=>
               have HU:Hid (∀(D:Nat) E,j+1=D+1->m[D]?=some E->less E.name x.name=true):=λD E h zC=>by cases h;rw[Z.o]at zC;cases zC;exact hless
              case' false=>
               have B:Hid (¬AJ s f c d q m o):=λh=>by have:=(h.cj _ _ A).up j p rfl Z;unfold less at this;rw[hless]at this;cases this
               cases hnm:Ck x.name
               all_goals rw[hnm]at I)
            |skip
           all_goals first
            |(have V:=B;clear V)
            |(cases hnm:Ck x.name
              case' false=>
               rw[hnm]at I;have B:Hid (¬AJ s f c d q m o):=λh=>by have:=(h.cj _ _ A).name;rw[hnm]at this;cases this
              case' true=>
               rw[hnm]at I;rcases CP q x.sum with⟨U,zJ⟩|⟨i2,u,U,hu,zK⟩
               case' inl=>
                rw[U]at Y;have B:Hid (¬AJ s f c d q m o):=λh=>zJ (h.cj _ _ A).sum
               case' inr=>
                rw[U]at Y;have zP:decide ((i2:Int)<0)=false:=Yu
                have HA:=Yw (zA ⟨hnm,HU,⟨u,Zs hu,zK⟩⟩);refine Ax Yr Yr ?_
                repeat (go_big_quiet_step (first|exact Ao.calls (I _)|exact Ao.calls (Y _)))
                refine wpQuiet_nil ?_;intro n;have T:=Yw (g.ah (n.h.aj G));have zI:=Aw.ag zF n.h z;clear g;go_wp2;exact⟨⟨_,Yv,Yn,T,zI,HA⟩,Ys⟩)
           all_goals
            refine Ax Yr Yr ?_
            repeat (go_big_quiet_step (first|exact Ao.calls (I _)|exact Ao.calls (Y _)))
            refine wpQuiet_nil ?_;intro n;have T:=Yw (g.ah (n.h.aj G));clear g;go_wp2;go_ret;exact Ay.no B T
          .clear J K L M N O P z;have⟨J,K,L,M,N,O,P,z⟩:=HX.o;have zG:Hid (∀(i:Nat) x,m[i]?=some x->EP q m i x):=λi x v=>t i x (Dz (Zw v).1) v;clear t;go_wp2
           go_loopw [4] (λi wr=>∃k:Nat,k<=o.length/\i=Zg k/\Zz w wr/\Hid (Aw wr w.1.size s f c d (C1 a q H) (C1 p m X) (C1 l o W))/\Hid (∀(j:Nat) x,j<k->o[j]?=some x->Dw f c q o j x)) (λi _=>o.length -(intOf i).toNat)
           case atStart=>exact⟨0,Az _,rfl,g,HX,λj x h=>Yv⟩
           case round=>
            obtain⟨k,zY,rfl,g,HX,t⟩:=hrel;have⟨J,K,L,M,N,O,P,z⟩:=HX.o;by_cases hlt:k<o.length
            .obtain⟨b,zE,ha,hb,hc⟩:=(AS.A zT g).at hlt;subst ha;have R:o[k]?=some o[k]:=Zv hlt;obtain⟨c0,c1,c2⟩:=hc k _ R;have zB:b<wr.1.size:=Yv
             cases k
             case' zero=>
              have A:=Yw R;clear hc R HX;simp only[Nat.zero_mul,Nat.add_zero]at c0 c1 c2;generalize o[0]=x at *
              have HU:Hid (∀(D:Nat) E,0=D+1->o[D]?=some E->E.G<x.G):=λD E h=>Yv
              have zA:Hid (Dw f c q o (0) x->∀(r:Nat) y,r<0+1->o[r]?=some y->Dw f c q o r y):=λv r y hj C=>by
               rcases Bz r (0)with Q|Q
               .exact t r y Q C
               .obtain rfl:r=0:=Yv
                rw[A.o]at C;cases C;exact v
             case' succ j=>
              have A:=Yw R;have Z:Hid (o[j]?=some o[j]):=Zv Yv;obtain⟨d0,_,_⟩:=hc j _ Z;clear hc R HX;generalize o[j+1]=x at *
              generalize o[j]=p' at *
              have yA:IntKind.i64.wrap (j:Int)=(j:Int):=wrap_small Yv Yv;have zW:(0:Int)<=(j:Int):=Yv
              have zX:(j:Int)<(o.length:Int):=Yv
              have zA:Hid (Dw f c q o (j+1) x->∀(r:Nat) y,r<(j+1)+1->o[r]?=some y->Dw f c q o r y):=λv r y hj C=>by
               rcases Bz r (j+1)with Q|Q
               .exact t r y Q C
               .obtain rfl:r=j+1:=Yv
                rw[A.o]at C;cases C;exact v
             all_goals
              go_wp2;have y:Below wr.1.size wr (wr.alloc (Obj.cells #[int IntKind.i64 x.G,C4 x.sum,int IntKind.i64 x.S] 73)):=Zy;have z1:(wr.alloc (Obj.cells #[int IntKind.i64 x.G,C4 x.sum,int IntKind.i64 x.S] 73)).1.size=wr.1.size+1:=Yu
              have t0:(wr.alloc (Obj.cells #[int IntKind.i64 x.G,C4 x.sum,int IntKind.i64 x.S] 73)).cell? (Zd (wr.1.size) 0)=some (Zg x.G):=Yu
              have t1:(wr.alloc (Obj.cells #[int IntKind.i64 x.G,C4 x.sum,int IntKind.i64 x.S] 73)).cell? (Zd (wr.1.size) 1)=some (C4 x.sum):=Yu
              have t2:(wr.alloc (Obj.cells #[int IntKind.i64 x.G,C4 x.sum,int IntKind.i64 x.S] 73)).cell? (Zd (wr.1.size) 2)=some (Zg x.S):=Yu
              have zF:Hid (Aw (wr.alloc (Obj.cells #[int IntKind.i64 x.G,C4 x.sum,int IntKind.i64 x.S] 73)) w.1.size s f c d (C1 a q H) (C1 p m X) (C1 (some ⟨b,zE,none⟩) o W)):=Aw.ag ⟨J,K,L,M,N,O,P,z⟩ y z;try have d1:=(y.cell (p:=⟨b,_,none⟩) zB).ah d0
              generalize hW1:(wr.alloc (Obj.cells #[int IntKind.i64 x.G,C4 x.sum,int IntKind.i64 x.S] 73))=W1 at *
              have R:Below w.1.size w W1:=g.ah (y.aj g.size);have G:w.1.size<=W1.1.size:=R.size;clear J K L M N O P;have⟨J,K,L,M,N,O,P,r⟩:=zF.o;have q0:=Ao.cell J r;have q1:=Ao.cell K r;have q2:=Ao.cell L r;have q3:=Ao.cell M r;have q4:=Ao.cell N r;have q5:=Ao.cell O r;have q6:=Ao.cell P r;have q7:=Ao.cell t0 Yv;have q8:=Ao.cell t1 Yv
              have q9:=Ao.cell t2 Yv;try have yH:=Ao.cell d1 Yv
              have zZ:=Ao.ne W1;have hV:∀n:Ao W1,D8 64 #[Zg x.G,Zg 1,Zg c] n.w λe S=>e=C5 (.bool (decide (1<=x.G/\x.G<=c)))/\Below n.w.1.size n.w S:=λn=>(CS _ _ _ _).aj (by rintro e S ⟨rfl,rfl⟩;exact⟨rfl,Ad⟩)
              have hF:∀n:Ao W1,D8 67 #[.agg (C9 s f c d a q H p m X (some ⟨b,zE,none⟩) o W),C4 x.sum] n.w λe S=>e=C5 (Zg (Cu q x.sum))/\Below n.w.1.size n.w S:=λn=>Dk s f c d a H _ _ q x.sum n.w w.1.size (AW.A zR (R.ah (n.h.aj R.size))) (Dz n.h.size) Yv;have I:=Yw hV;have Y:=Yw hF
              have yG:IntKind.i64.wrap (f+100000)=f+100000:=GZ Yv Yv;clear hV hF g;have g:=R
             all_goals first
              |(have V:=Z
                clear V;by_cases hless:p'.G<x.G
                case' pos=>
                 have C:decide (x.G<=p'.G)=false:=Yt
                 have HU:Hid (∀(D:Nat) E,j+1=D+1->o[D]?=some E->E.G<x.G):=λD E h zC=>by cases h;rw[Z.o]at zC;cases zC;exact hless
                case' neg=>
                 have C:decide (x.G<=p'.G)=true:=Yt
                 have B:Hid (¬AJ s f c d q m o):=λh=>Dz ((h.bu _ _ A).up j p' rfl Z)
                 by_cases hrg:1<=x.G/\x.G<=c
                 case' pos=>rw[decide_eq_true hrg]at I
                 case' neg=>rw[decide_eq_false hrg]at I)
              |skip
             all_goals first
              |(have V:=B;clear V)
              |(by_cases hrg:1<=x.G/\x.G<=c
                case' neg=>
                 rw[decide_eq_false hrg]at I;have B:Hid (¬AJ s f c d q m o):=λh=>hrg ⟨(h.bu _ _ A).lo,(h.bu _ _ A).hi⟩
                case' pos=>
                 rw[decide_eq_true hrg]at I;rcases CP q x.sum with⟨U,zJ⟩|⟨i2,u,U,hu,zK⟩
                 case' inl=>
                  rw[U]at Y;have B:Hid (¬AJ s f c d q m o):=λh=>zJ (h.bu _ _ A).sum
                 case' inr=>
                  rw[U]at Y;have zP:decide ((i2:Int)<0)=false:=Yu
                  by_cases ht1:f<x.S
                  case' neg=>
                   have D:decide (x.S<=f)=true:=Yt
                   have B:Hid (¬AJ s f c d q m o):=λh=>Dz (h.bu _ _ A).ir
                  case' pos=>
                   have D:decide (x.S<=f)=false:=Yt
                   by_cases ht2:x.S<=f+100000
                   case' neg=>
                    have E:decide (f+100000<x.S)=true:=Yt
                    have B:Hid (¬AJ s f c d q m o):=λh=>Dz (h.bu _ _ A).ix
                   case' pos=>
                    have E:decide (f+100000<x.S)=false:=Yt
                    have HA:=Yw (zA ⟨hrg.1,hrg.2,HU,⟨u,Zs hu,zK⟩,ht1,ht2⟩);refine Ax Yr Yr ?_
                    repeat (go_big_quiet_step (first|exact Ao.calls (I _)|exact Ao.calls (Y _)))
                    refine wpQuiet_nil ?_;intro n;have T:=Yw (g.ah (n.h.aj G));have zI:=Aw.ag zF n.h r;clear g R;go_wp2;exact⟨⟨_,Yv,Yn,T,zI,HA⟩,Ys⟩)
             all_goals
              refine Ax Yr Yr ?_
              repeat (go_big_quiet_step (first|exact Ao.calls (I _)|exact Ao.calls (Y _)))
              refine wpQuiet_nil ?_;intro n;have T:=Yw (g.ah (n.h.aj G));clear g;go_wp2;go_ret;exact Ay.no B T
            .go_wp2;go_ret;exact Ay.yes ⟨hN,hn1,hn2,hn3,zH.1,zH.2.1,zH.2.2,zG,λi x v=>t i x (Dz (Zw v).1) v⟩ g
       .have zO:decide ((200:Int)<(o.length:Int))=true:=Yt
        clear v;go_wp2;go_ret;exact Ay.no (λh=>hn3 h.nl) F
      .have zN:decide ((100:Int)<(m.length:Int))=true:=Yt
       clear v;go_wp2;go_ret;exact Ay.no (λh=>hn2 h.np) F
     .have zM:decide ((600:Int)<(q.length:Int))=true:=Yt
      clear v;go_wp2;go_ret;exact Ay.no (λh=>hn1 h.nth) F
    .rw[decide_eq_false h3];go_wp2;go_ret;exact Ay.no (λh=>h3 ⟨h.bn.ai,h.bn.ff⟩) F
   .rw[decide_eq_false h2];go_wp2;go_ret;exact Ay.no (λh=>h2 ⟨h.bn.bh,h.bn.gg⟩) F
  .rw[decide_eq_false h1];go_wp2;go_ret;exact Ay.no (λh=>h1 ⟨h.bn.ct,h.bn.ic⟩) F
 .rw[decide_eq_false h0];go_wp2;go_ret;exact Ay.no (λh=>h0 ⟨h.bn.gm,h.bn.ib⟩) F
def Ja(wd:Int)(k:Kd):Int:=1+k.B.length *wd+k.J.size
def DK(wd:Int)(ks:List Kd):Int:=(ks.map (Ja wd)).sum
theorem Mi{k:Nat}(b:a[k]?=some x):DK wd (a.take (k+1))=DK wd (a.take k)+Ja wd x:=by unfold DK;rw[JI b,map_append,sum_append];simp
theorem PM(h:AG x.J x.B wd=true):1<=Ja wd x/\Ja wd x<=2241/\0<=(x.B.length:Int) *wd/\(x.B.length:Int) *wd<=240:=by have h:=Bj h;have b:=h.lo;have a:=h.hi;have c:=h.B;have d:=h.J;have e:0<=(x.B.length:Int) *wd:=Int.mul_nonneg Yv Yv;have f:(x.B.length:Int) *wd<=30 *8:=Int.mul_le_mul Yv a Yv Yv;unfold Ja;omega
theorem PO(h:∀(i:Nat) k,a[i]?=some k->AG k.J k.B wd=true):∀k,k<=a.length->0<=DK wd (a.take k)/\DK wd (a.take k)<=2241 *k
 |0,_=>by simp[DK]
 |k+1,hk=>by have c:=PO h k Yv;have b:a[k]?=some (a[k]'(by omega)):=Zv Yv;have:=PM (h k _ b);rw[Mi b];omega
theorem SO(wd j f d:Int)(a:Zk)(o:Nat)(P L:D4)(c:Dj)(w:Zh)(g:AW w w.1.size a c)(U:c.length<=600)(h:∀(i:Nat) k,c[i]?=some k->AG k.J k.B wd=true):
 D8 154 #[.agg #[Zg wd,Zg j,Zg f,Zg d,C3 a c.length o,P,L]] w λe l=>e=C5 (Zg (DK wd c))/\Zz w l:=by
 have s:Below w.1.size w (w.alloc (.cells #[Zg wd,Zg j,Zg f,Zg d,C1 a c o,P,L] 27)):=Zy;go_enter func154,ntmps154;go_wp2
 go_loopw [3,4] (λn i wr=>∃(k m:Nat),k<=c.length/\i=Zg k/\n=Zg (DK wd (c.take k))/\wr=(w.alloc (.cells #[Zg wd,Zg j,Zg f,Zg d,C1 a c o,P,L] 27)).drewN m) (λ_ i _=>c.length -(intOf i).toNat)
 case atStart=>exact⟨0,0,Az _,rfl,by simp[DK],rfl⟩
 case round=>
  obtain⟨k,m,C,rfl,rfl,rfl⟩:=hrel;by_cases hlt:k<c.length
  .obtain⟨b,H,B,T,r⟩:=g.at hlt;subst B;have l:Hid (c[k]?=some c[k]):=Zv hlt;obtain⟨I,J,K,V,W,M,_⟩:=r k _ l;have t:=PM (h k _ l);have u:=PO h k C;have v:=Yw (Mi (wd:=wd) l);have F:(0:Int)<=(k:Int):=Yv
   have G:(k:Int)<(c.length:Int):=Yv
   obtain⟨p,q,y,z⟩:=t;obtain⟨D,E⟩:=u;have A:DK wd (c.take k)<=1344600:=Yv
   generalize c[k]=x at *
   unfold Ja at p q;generalize hRK:DK wd (c.take k)=R at *
   have N:IntKind.i64.wrap (R+1)=R+1:=GZ Yv Yv;have O:IntKind.i64.wrap ((x.B.length:Int) *wd)=(x.B.length:Int) *wd:=GZ Yv Yv;have Q:IntKind.i64.wrap (R+1+(x.B.length:Int) *wd)=R+1+(x.B.length:Int) *wd:=GZ Yv Yv;have S:IntKind.i64.wrap (R+1+(x.B.length:Int) *wd+x.J.size)=R+1+(x.B.length:Int) *wd+x.J.size:=GZ Yv Yv
   clear r g h p q y z D E A hRK;go_wp2;go_quiet (fail);go_wp2;refine⟨⟨k+1,_,Yv,Yn,?_,rfl⟩,Ys⟩;rw[v.o];unfold Ja;congr 1;omega
  .go_wp2;go_ret;exact⟨RO (by rw[Zt Yv]),Bg s _⟩
section
attribute [local go_sem↓] Go.wp_at_zero Go.wp_at_succ
theorem NU{fk fj:Nat}(zO:(fk=156/\Hid (fj=173))\/(fk=7/\Hid (fj=32)))(U M j d G s c b:Int)(a p l a' p' l':Zk)(ac pc lc Z zC zB:Nat)(z o:Dj)(C r:Dy)(B q:Dv)(w:Zh)(E:Bx w w.1.size a p l z C B)(D:Bx w w.1.size a' p' l' o r q)(hl:z.length<=100000/\C.length<=100000/\B.length<=100000)(zS:o.length<=1048576/\r.length<=1048576/\q.length<=1048576)(P:∀k∈z,k.B.length<=100000)(Q:∀k∈o,k.B.length<=1048576):
 D8 fk #[.agg (Yg U M j d a z.length ac p C.length pc l B.length lc),.agg (Yg G s c b a' o.length Z p' r.length zC l' q.length zB)] w λe w'=>Ay ((U=G/\M=s/\j=c/\d=b)/\z=o/\C=r/\B=q) w w' e:=by
 rcases zO with⟨rfl,HJ⟩|⟨rfl,HJ⟩
 all_goals
  have⟨W,f⟩:=Ae ((w.alloc (.cells (C9 U M j d a z ac p C pc l B lc) 27)).alloc (.cells (C9 G s c b a' o Z p' r zC l' q zB) 27));have bW:=(Bi f).1;have t:=(Bi f).2.2.1;have u:Aa W (w.1.size+1) (C8 G s c b a' o Z p' r zC l' q zB):=by have P:=Aa.new (w.alloc (.cells (C9 U M j d a z ac p C pc l B lc) 27)) (C8 G s c b a' o Z p' r zC l' q zB) 27;rw[Al]at P;rw[f];exact P
  have HX:Hid (∀X,Zz W X->Aa X w.1.size (C8 U M j d a z ac p C pc l B lc)/\Aa X (w.1.size+1) (C8 G s c b a' o Z p' r zC l' q zB)/\Bx X w.1.size a p l z C B/\Bx X w.1.size a' p' l' o r q/\Zz w X):=λX g=>by have A:=bW.ah (g.aj bW.size);exact⟨Aa.A t g,Aa.A u g,E.ag A,D.ag A,A⟩
  have zW:=(Bi f).2.1;obtain⟨J,_⟩:=t 0 _ rfl;obtain⟨V,_⟩:=u 0 _ rfl;obtain⟨K,_⟩:=t 1 _ rfl;obtain⟨Y,_⟩:=u 1 _ rfl;obtain⟨L,_⟩:=t 2 _ rfl;obtain⟨h,_⟩:=u 2 _ rfl;obtain⟨R,_⟩:=t 3 _ rfl;obtain⟨n,_⟩:=u 3 _ rfl;obtain⟨N,_⟩:=t 4 _ rfl;obtain⟨O,_⟩:=u 4 _ rfl;obtain⟨S,_⟩:=t 5 _ rfl;obtain⟨x,_⟩:=u 5 _ rfl;obtain⟨T,_⟩:=t 6 _ rfl;obtain⟨y,_⟩:=u 6 _ rfl;have HW:=Yw f;clear f E D t u;by_cases e0:U=G
  case' neg=>
   have f:(U !=G)=true:=by simp[e0]
  case' pos=>
   have f:(U !=G)=false:=by simp[e0]
   have E0:=Yw e0;clear e0;by_cases e1:M=s
   case' neg=>
    have g:(M !=s)=true:=by simp[e1]
   case' pos=>
    have g:(M !=s)=false:=by simp[e1]
    have E1:=Yw e1;clear e1;by_cases e2:j=c
    case' neg=>
     have m:(j !=c)=true:=by simp[e2]
    case' pos=>
     have m:(j !=c)=false:=by simp[e2]
     have E2:=Yw e2;clear e2;by_cases e3:d=b
     case' neg=>
      have v:(d !=b)=true:=by simp[e3]
     case' pos=>
      have v:(d !=b)=false:=by simp[e3]
      have E3:=Yw e3;clear e3;by_cases e4:z.length=o.length
      case' neg=>
       have F:=bne_iff_ne.2 Yv
      case' pos=>
       have F:((z.length:Int) !=(o.length:Int))=false:=by simp[e4]
       have E4:=Yw e4;clear e4;by_cases e5:C.length=r.length
       case' neg=>
        have H:=bne_iff_ne.2 Yv
       case' pos=>
        have H:((C.length:Int) !=(r.length:Int))=false:=by simp[e5]
        have E5:=Yw e5;clear e5;by_cases e6:B.length=q.length
        case' neg=>
         have I:=bne_iff_ne.2 Yv
        case' pos=>
         have I:((B.length:Int) !=(q.length:Int))=false:=by simp[e6]
         have E6:=Yw e6;clear e6
         first|go_enter func156,ntmps156|go_enter func7,ntmps7
         go_upto_region 1 with fail;rw[<-HW.o];clear HW;go_wp2;clear f g m v F H I
         go_loopw [5] (λi wr=>∃k:Nat,k<=z.length/\i=Zg k/\Hid (z.take k=o.take k/\Zz W wr)) (λi _=>z.length -(intOf i).toNat)
         case atStart=>exact⟨0,Az _,rfl,⟨Yu,Ad⟩⟩
         case round=>
          clear J V K Y L h R n N O S x T y;obtain⟨k,hk,rfl,v⟩:=hrel;have⟨t,u,E,D,g⟩:=HX wr v.2;have zK:=v.2.size;obtain⟨N,_⟩:=t 4 _ rfl;obtain⟨O,_⟩:=u 4 _ rfl;by_cases hlt:k<z.length
          .have f:k<o.length:=Dz E4.o
           have⟨rb,ro,ha,zA,L⟩:=E.k.at hlt;have⟨qb,qo,A,X,K⟩:=D.k.at f;subst ha A;obtain⟨c0,c1,c2,ra,rc,h,F⟩:=L k _ (Zv hlt);obtain⟨d0,d1,d2,sa,sc,d3,m⟩:=K k _ (Zv f);have S:=Zr zA g.size;have R:=Zr X g.size;have V:=Yw (Zu hlt);have Y:=Yw (Zu f);have HN:Hid (∀x y,z[k]?=some x->o[k]?=some y->x≠y->z≠o):=λx y P Q T e=>by subst e;rw[P]at Q;exact T (A4 Q)
           have H:=Yw (Zv hlt);have I:=Yw (Zv f);have zJ:(k:Int)<o.length:=Yv
           have m1:=P _ (getElem_mem hlt);have m2:=Q _ (getElem_mem f);clear L K;generalize z[k]=x at *
           generalize o[k]=y at *
           have HB:=Yw v.2;have HC:Hid (∀n:Ao wr,D8 fj #[.agg #[C4 x.J,C1 ra x.B rc],.agg #[C4 y.J,C1 sa y.B sc]] n.w λe w'=>e=C5 (.bool (decide (x.J=y.J/\x.B=y.B)))/\Below n.w.1.size n.w w'):=λn=>by
            have zF:=g.ah (n.h.aj g.size);have hj:=HJ.o;subst hj
            first
             |refine(Ma x.J y.J ra sa rc sc x.B y.B n.w ((F.A (n.h.aj g.size)).aj zF.size) ((m.A (n.h.aj g.size)).aj zF.size) m1 m2).aj ?_
             |refine(St x.J y.J ra sa rc sc x.B y.B n.w ((F.A (n.h.aj g.size)).aj zF.size) ((m.A (n.h.aj g.size)).aj zF.size) (Zm m1 Yq) m2).aj ?_
            rintro e w' ⟨bb,rfl,zI,zH⟩;refine⟨?_,zH⟩;by_cases hP:x.J=y.J/\x.B=y.B
            .rw[zI.2 hP,decide_eq_true hP]
            .cases bb with
             |true=>exact absurd (zI.1 rfl) hP
             |false=>rw[decide_eq_false hP]
           have hj:=HJ.o;subst hj;have q1:=Ao.cell N Yv;have q2:=Ao.cell O Yv;have r0:=Ao.cell c0 S;have s0:=Ao.cell d0 R;have r1:=Ao.cell c1 S;have s1:=Ao.cell d1 R;have r2:=Ao.cell c2 S;have s2:=Ao.cell d2 R;have r3:=Ao.cell h S;have s3:=Ao.cell d3 R;have T:=Ao.ne wr;have HE:Hid (∀n:Ao wr,Zz W n.w):=λn=>HB.ah (n.h.aj HB.size);clear t u E D F m g
           by_cases hs:x.sum=y.sum
           case' neg=>
            have zP:(x.sum.toList !=y.sum.toList)=true:=by simp[bne,Br hs]
            have zR:=Br hs;have zG:=Yw hs;clear hs
           case' pos=>
            have zP:(x.sum.toList !=y.sum.toList)=false:=by rw[hs];simp
            have zR:(x.sum.toList==y.sum.toList)=true:=by rw[hs];simp
            by_cases A:x.born=y.born
            case' neg=>
             have zH:(x.born !=y.born)=true:=by simp[A]
             have zN:(x.born==y.born)=false:=by simp[A]
             have zG:=Yw A;clear A hs
            case' pos=>
             have zH:(x.born !=y.born)=false:=by simp[A]
             have zN:(x.born==y.born)=true:=by simp[A]
             by_cases hP:x.J=y.J/\x.B=y.B
             case' neg=>
              rw[decide_eq_false hP]at HC;have zG:=Yw hP;clear hP hs A
             case' pos=>
              rw[decide_eq_true hP]at HC;have J:Hid (x=y):=by obtain⟨e1,e2⟩:=hP;show x=y;cases x;cases y;simp_all
              clear hP hs A;go_wp2;refine Ax Yr Yr ?_
              repeat (go_big_quiet_step (exact Ao.calls (HC _)))
              refine wpQuiet_nil ?_;intro n;clear q1 q2 r0 r1 r2 r3 s0 s1 s2 s3 N O c0 c1 c2 h d0 d1 d2 d3;go_wp2;exact⟨⟨k+1,Yv,Yn,⟨by rw[V.o,Y.o,v.1,J.o],HE.o n⟩⟩,Ys⟩
           all_goals
            go_wp2;refine Ax Yr Yr ?_
            repeat (go_big_quiet_step (exact Ao.calls (HC _)))
            refine wpQuiet_nil ?_;intro n;have zM:=Yw ((HX _ (HE n)).2.2.2.2);clear q1 q2 r0 r1 r2 r3 s0 s1 s2 s3 N O c0 c1 c2 h d0 d1 d2 d3;go_wp2;go_ret;exact Ay.no (λh=>HN x y H I (λe=>zG (by rw[e];first|done|exact⟨rfl,rfl⟩)) h.2.1) zM
          .obtain rfl:k=z.length:=Yv
           have m:=v.1;rw[Zt (Zx),Zt (Dz E4.o)]at m;have HK:=Yw m;have zE:=Yw v.2;clear m t u E D g;go_wp2
           go_loopw [6] (λi wr=>∃k:Nat,k<=C.length/\i=Zg k/\Hid (C.take k=r.take k/\Zz W wr)) (λi _=>C.length -(intOf i).toNat)
           case atStart=>exact⟨0,Az _,rfl,⟨Yu,zE⟩⟩
           case round=>
            obtain⟨k,hk,rfl,v⟩:=hrel;have⟨t,u,E,D,g⟩:=HX wr v.2;have zK:=v.2.size;obtain⟨N,_⟩:=t 5 _ rfl;obtain⟨O,_⟩:=u 5 _ rfl;by_cases hlt:k<C.length
            .have f:k<r.length:=Dz E5.o
             have⟨rb,ro,ha,zA,L⟩:=E.p.at hlt;have⟨qb,qo,A,X,K⟩:=D.p.at f;subst ha A;obtain⟨c0,c1⟩:=L k _ (Zv hlt);obtain⟨d0,d1⟩:=K k _ (Zv f);have S:=Zr zA g.size;have R:=Zr X g.size;have V:=Yw (Zu hlt);have Y:=Yw (Zu f);have HN:Hid (∀x y,C[k]?=some x->r[k]?=some y->x≠y->C≠r):=λx y P Q T e=>by subst e;rw[P]at Q;exact T (A4 Q)
             have H:=Yw (Zv hlt);have I:=Yw (Zv f);have zJ:(k:Int)<r.length:=Yv
             clear L K;generalize C[k]=x at *
             generalize r[k]=y at *
             have HB:=Yw v.2;have F:=Yw g;clear t u E D g;by_cases hxy:x=y
             .subst hxy;go_wp2
              go_region
              all_goals go_wp2
              all_goals exact⟨⟨k+1,Yv,Yn,⟨by rw[V.o,Y.o,v.1],HB.drew⟩⟩,Ys⟩
             .have J:=Yw hxy;by_cases n0:x.name=y.name
              .have k0:x.name.toList=y.name.toList:=by rw[n0]
               have n1:¬x.sum=y.sum:=λe=>hxy (by
                cases x;cases y;simp_all)
               have k1:¬x.sum.toList=y.sum.toList:=λe=>n1 (Kv e);clear hxy n0 n1;go_wp2
               go_region
               all_goals go_wp2
               all_goals go_ret
               all_goals exact Ay.no (λh=>HN x y H I J h.2.2.1) F.drew
              .have k0:¬x.name.toList=y.name.toList:=λe=>n0 (Kv e);clear n0 hxy;go_wp2
               go_region
               all_goals go_wp2
               all_goals go_ret
               all_goals exact Ay.no (λh=>HN x y H I J h.2.2.1) F.drew
            .obtain rfl:k=C.length:=Yv
             have m:=v.1;rw[Zt (Zx),Zt (Dz E5.o)]at m;have HP:=Yw m;have zE:=Yw v.2;have F:=Yw g;clear m t u E D g;go_wp2
             go_loopw [7] (λi wr=>∃k:Nat,k<=B.length/\i=Zg k/\Hid (B.take k=q.take k/\Zz W wr)) (λi _=>B.length -(intOf i).toNat)
             case atStart=>exact⟨0,Az _,rfl,⟨Yu,zE⟩⟩
             case round=>
              obtain⟨k,hk,rfl,v⟩:=hrel;have⟨t,u,E,D,g⟩:=HX wr v.2;have zK:=v.2.size;obtain⟨N,_⟩:=t 6 _ rfl;obtain⟨O,_⟩:=u 6 _ rfl;by_cases hlt:k<B.length
              .have f:k<q.length:=Dz E6.o
               have⟨rb,ro,ha,zA,L⟩:=E.l.at hlt;have⟨qb,qo,A,X,K⟩:=D.l.at f;subst ha A;obtain⟨c0,c1,c2⟩:=L k _ (Zv hlt);obtain⟨d0,d1,d2⟩:=K k _ (Zv f);have S:=Zr zA g.size;have R:=Zr X g.size;have V:=Yw (Zu hlt);have Y:=Yw (Zu f);have HN:Hid (∀x y,B[k]?=some x->q[k]?=some y->x≠y->B≠q):=λx y P Q T e=>by subst e;rw[P]at Q;exact T (A4 Q)
               have H:=Yw (Zv hlt);have I:=Yw (Zv f);have zJ:(k:Int)<q.length:=Yv
               clear L K;generalize B[k]=x at *
               generalize q[k]=y at *
               have HB:=Yw v.2;have F:=Yw g;clear t u E D g;by_cases hxy:x=y
               .subst hxy;go_wp2
                go_region
                all_goals go_wp2
                all_goals exact⟨⟨k+1,Yv,Yn,⟨by rw[V.o,Y.o,v.1],HB.drew⟩⟩,Ys⟩
               .have J:=Yw hxy;by_cases n0:x.G=y.G
                .have k0:=n0;by_cases n1:x.sum=y.sum
                 .have k1:x.sum.toList=y.sum.toList:=by rw[n1]
                  have L:¬x.S=y.S:=λe=>hxy (by
                   cases x;cases y;simp_all)
                  clear hxy n1;go_wp2
                  go_region
                  all_goals go_wp2
                  all_goals go_ret
                  all_goals exact Ay.no (λh=>HN x y H I J h.2.2.2) F.drew
                 .have k1:¬x.sum.toList=y.sum.toList:=λe=>n1 (Kv e);clear n1 hxy;go_wp2
                  go_region
                  all_goals go_wp2
                  all_goals go_ret
                  all_goals exact Ay.no (λh=>HN x y H I J h.2.2.2) F.drew
                .clear hxy;go_wp2
                 go_region
                 all_goals go_wp2
                 all_goals go_ret
                 all_goals exact Ay.no (λh=>HN x y H I J h.2.2.2) F.drew
              .obtain rfl:k=B.length:=Yv
               have m:=v.1;rw[Zt (Zx),Zt (Dz E6.o)]at m;have K:=Yw m;have zE:=Yw v.2;have F:=Yw g;clear m t u E D g;go_wp2;go_ret;exact Ay.yes ⟨⟨E0,E1,E2,E3⟩,HK,HP,K⟩ F
  all_goals
   first|go_enter func156,ntmps156|go_enter func7,ntmps7
   go_upto_region 1 with fail;rw[<-HW.o];clear HW;go_wp2;go_ret;exact Ay.no (by first|exact λh=>e0 h.1.1|exact λh=>e1 h.1.2.1|exact λh=>e2 h.1.2.2.1|exact λh=>e3 h.1.2.2.2|exact λh=>e4 (by rw[h.2.1])|exact λh=>e5 (by rw[h.2.2.1])|exact λh=>e6 (by rw[h.2.2.2])) bW
theorem KQ{a:Zl}:a.Nodup↔∀(j:Nat) x,a[j]?=some x->x∉a.take j:=by
 unfold Nodup;rw[pairwise_iff_getElem];constructor
 .intro h j x b k;obtain⟨g,rfl⟩:=Zw b;have⟨i,c,e⟩:=getElem_of_mem k;have d:i<j:=by simp at c;omega
  rw[getElem_take]at e;exact h i j Yv g d e
 .intro h i j c b l e;refine h j a[j] (Zv b) ?_;rw[<-e];have f:i<(a.take j).length:=Yt
  have:=getElem_mem f;rw[getElem_take]at this;exact this
theorem Af.front{B:Nat}{a:Zk}{c:Zl}(h:Af w B a c)(K:Nat):Af w B a (c.take K):=by
 rcases h with h|⟨q,d,e,f,g⟩
 .exact .inl (by simp[h])
 .refine .inr ⟨q,d,e,f,λi s b=>g i s ?_⟩;have j:=(Zw b).1;simp at j;rw[getElem?_take_of_lt Yv]at b;exact b
theorem VO(o C r c p f l q:Int)(T P L:D4)(a b:Zk)(X D:Nat)(m g:Zl)(w:Zh)(hq:Af w w.1.size a m)(hm:Af w w.1.size b g)(hf:Ss m g)(zM:g.length<=D)(zR:c<=1000000000):
 D8 157 #[.agg #[Zg o,Zg C,Zg r,Zg c,T,P,L],.agg (Ya p a m.length X b g.length D f l q)] w λe w'=>Ay (Cc o c p f l q m g) w w' e:=by
 have zT:=hf.q;have zS:=hf.m;have⟨W,Y⟩:=Ae ((w.alloc (.cells #[Zg o,Zg C,Zg r,Zg c,T,P,L] 27)).alloc (.cells (Ya p a m.length X b g.length D f l q) 98));have d:Below w.1.size w W:=by rw[Y];exact(Zy).alloc Yu _
 have zH:Aw W w.1.size o C r c T P L:=by rw[Y];exact(Aw.new w o C r c T P L 27).A (Zy)
 have zG:CH W (w.1.size+1) p (C1 a m X) (C1 b g D) f l q:=by rw[Y];have:=CH.new (w.alloc (.cells #[Zg o,Zg C,Zg r,Zg c,T,P,L] 27)) p f l q (C1 a m X) (C1 b g D) 98;rw[Al]at this;exact this
 have zK:W.1.size=w.1.size+2:=by rw[Y];simp
 have HW:=Yw Y;clear Y;have v:=Yw zH;have u:=Yw zG;have HQ:=Yw hq;have HM:=Yw hm;clear zH zG hq hm;by_cases p1:p<0
 .have d1:decide (p<0)=true:=D2 p1
  go_enter func157,ntmps157;go_wp2;go_ret;rw[<-HW.o];exact Ay.no (P:=Cc o c p f l q m g) (λh=>by rcases h.M with h|h|h<;>(have:=h.1;omega)) d
 have d1:decide (p<0)=false:=D2 p1
 by_cases p2:2<p
 .have d2:decide ((2:Int)<p)=true:=D2 p2
  go_enter func157,ntmps157;go_wp2;go_ret;rw[<-HW.o];exact Ay.no (P:=Cc o c p f l q m g) (λh=>by rcases h.M with h|h|h<;>(have:=h.1;omega)) d
 have d2:decide ((2:Int)<p)=false:=D2 p2
 go_enter func157,ntmps157;go_wp2_with fail;rw[<-HW.o];refine(CS q 0 1000000000 W).aj ?_;rintro e w1 ⟨rfl,rfl⟩;have⟨I,E,F,J,K,M,S⟩:=u.o;by_cases h1:0<=q/\q<=1000000000
 .rw[decide_eq_true h1];by_cases h2:m.length<=23200
  .have A:decide ((23200:Int)<(m.length:Int))=false:=Yt
   by_cases h3:g.length<=600
   .have G:decide ((600:Int)<(g.length:Int))=false:=Yt
    clear HW;go_wp2
    go_loopw [5] (λi wr=>∃k:Nat,k<=m.length/\i=Zg k/\Hid (∀j x,j<k->m[j]?=some x->(x.size:Int)=o)/\Hid (Aw wr w.1.size o C r c T P L)/\Hid (CH wr (w.1.size+1) p (C1 a m X) (C1 b g D) f l q)/\Zz w wr) (λi _=>m.length -(intOf i).toNat)
    case atStart=>exact⟨0,Az _,rfl,λj x h=>Yv,v,u,d⟩
    case round=>
     clear I E F J K M S v u d zK;obtain⟨k,hk,rfl,t,v,u,d⟩:=hrel;have⟨I,E,F,J,K,M,S⟩:=u.o;have⟨N,_,_,U,_,_,_,y7⟩:=v.o;by_cases hlt:k<m.length
     .obtain⟨b',zC,ha,hb,hc⟩:=(Af.A HQ d).at hlt;subst ha;have R:=Yw (Zv hlt);have Q:=hc k _ R;have O:=Zr hb d.size;clear hc;generalize m[k]=x at *
      have Z:=Ao.cell E S;have q2:=Ao.cell Q O;have q3:=Ao.cell N y7;have zI:=Ao.ne wr;by_cases h:(x.size:Int)=o
      .have hn:((x.size:Int) !=o)=false:=by simp[h]
       have HA:Hid (∀j y,j<k+1->m[j]?=some y->(y.size:Int)=o):=by
        intro j y hj H;rcases Bz j k with B|B
        .exact t j y B H
        .obtain rfl:j=k:=Yv
         rw[R.o]at H;cases H;exact h
       go_wp2;refine Ax Yr Yr ?_
       repeat (go_big_quiet_step (fail))
       refine wpQuiet_nil ?_;intro n;have zB:=Yw (Aw.ag v n.h y7);have zA:=Yw (CH.ag u n.h S);have z:=d.ah (n.h.aj d.size);clear Z q2 q3 I E F J K M N U Q;go_wp2;exact⟨⟨k+1,Yv,Yn,HA,zB,zA,z⟩,Ys⟩
      .have hn:((x.size:Int) !=o)=true:=by simp[h]
       go_wp2;refine Ax Yr Yr ?_
       repeat (go_big_quiet_step (fail))
       refine wpQuiet_nil ?_;intro n;have z:=d.ah (n.h.aj d.size);clear Z q2 q3 I E F J K M N U Q;go_wp2;go_ret;exact Ay.no (P:=Cc o c p f l q m g) (λB=>h (B.ft.q x (Zs R))) z
     .have zE:Hid (∀s∈m,(s.size:Int)=o):=by intro s hs;obtain⟨j,hj,rfl⟩:=getElem_of_mem hs;exact t j _ Yv (Zv hj)
      clear t;go_wp2
      go_loopw [6] (λi wr=>∃k:Nat,k<=g.length/\i=Zg k/\Hid (∀j x,j<k->g[j]?=some x->(x.size:Int)=o/\x∉g.take j)/\Hid (Aw wr w.1.size o C r c T P L)/\Hid (CH wr (w.1.size+1) p (C1 a m X) (C1 b g D) f l q)/\Zz w wr) (λi _=>g.length -(intOf i).toNat)
      case atStart=>exact⟨0,Az _,rfl,λj x h=>Yv,v,u,d⟩
      case round=>
       clear I E F J K M S N U y7 v u d;obtain⟨k,hk,rfl,t,v,u,d⟩:=hrel;have⟨I,E,F,J,K,M,S⟩:=u.o;have⟨N,_,_,U,_,_,_,y7⟩:=v.o;by_cases hlt:k<g.length
       .obtain⟨b',zC,ha,hb,hc⟩:=(Af.A HM d).at hlt;subst ha;have R:=Yw (Zv hlt);have Q:=hc k _ R;have O:=Zr hb d.size;clear hc;generalize g[k]=x at *
        have Z:=Ao.cell F S;have q2:=Ao.cell Q O;have q3:=Ao.cell N y7;have zI:=Ao.ne wr;have zJ:(g.take k).length=k:=Yt
        have hH:∀n:Ao wr,D8 98 #[C3 (some ⟨b',zC,none⟩) k D,C4 x] n.w λe w'=>e=C5 (.bool ((g.take k).any (λy=>decide (y=x))))/\Below n.w.1.size n.w w':=λn=>by have:=Fq (some ⟨b',zC,none⟩) D (g.take k) x n.w w.1.size (Af.front (Af.A HM (d.ah (n.h.aj d.size))) k) Yv;rw[zJ]at this;exact this.aj (by rintro e w' ⟨rfl,rfl⟩;exact⟨rfl,Ad⟩)
        have HH:=Yw hH;clear hH;have zU:k<=D:=Yv
        by_cases h:(x.size:Int)=o
        .have hn:((x.size:Int) !=o)=false:=by simp[h]
         cases hin:(g.take k).any (λy=>decide (y=x))with
         |false=>
          rw[hin]at HH;have V:x∉g.take k:=λhx=>by have:(g.take k).any (λy=>decide (y=x))=true:=any_eq_true.2 ⟨x,hx,Yu⟩;rw[hin]at this;cases this
          have HA:Hid (∀j y,j<k+1->g[j]?=some y->(y.size:Int)=o/\y∉g.take j):=by
           intro j y hj H;rcases Bz j k with B|B
           .exact t j y B H
           .obtain rfl:j=k:=Yv
            rw[R.o]at H;cases H;exact⟨h,V⟩
          clear V t;go_wp2;refine Ax Yr Yr ?_
          repeat (go_big_quiet_step (exact Ao.calls (HH _)))
          refine wpQuiet_nil ?_;intro n;have zB:=Yw (Aw.ag v n.h y7);have zA:=Yw (CH.ag u n.h S);have z:=d.ah (n.h.aj d.size);clear Z q2 q3 I E F J K M N U Q;go_wp2;exact⟨⟨k+1,Yv,Yn,HA,zB,zA,z⟩,Ys⟩
         |true=>
          rw[hin]at HH;have HN:Hid (x∈g.take k):=by
           have⟨y,H,e⟩:=any_eq_true.1 hin;have:y=x:=D2 e
           rw[<-this];exact H
          clear t;go_wp2;refine Ax Yr Yr ?_
          repeat (go_big_quiet_step (exact Ao.calls (HH _)))
          refine wpQuiet_nil ?_;intro n;have z:=d.ah (n.h.aj d.size);clear Z q2 q3 I E F J K M N U Q;go_wp2;go_ret;exact Ay.no (P:=Cc o c p f l q m g) (λB=>(KQ.1 B.ft.nd) k x R HN) z
        .have hn:((x.size:Int) !=o)=true:=by simp[h]
         go_wp2;refine Ax Yr Yr ?_
         repeat (go_big_quiet_step (fail))
         refine wpQuiet_nil ?_;intro n;have z:=d.ah (n.h.aj d.size);clear Z q2 q3 I E F J K M N U Q;go_wp2;go_ret;exact Ay.no (P:=Cc o c p f l q m g) (λB=>h (B.ft.m x (Zs R))) z
       .have HS:Hid (Uw o m g):=by refine⟨h2,h3,zE,λs hs=> ?_,KQ.2 λj x hx=>(t j x (Dz (Zw hx).1) hx).2⟩;obtain⟨j,hj,rfl⟩:=getElem_of_mem hs;exact(t j _ Yv (Zv hj)).1
        clear t zE;by_cases p0:p=0
        .subst p0;by_cases e1:m.length=0
         .by_cases A:g.length=0
          .by_cases G:f=0
           .by_cases e4:l=0
            .go_wp2;go_ret;exact Ay.yes (P:=Cc o c 0 f l q m g) ⟨h1.1,h1.2,HS,.inl ⟨rfl,Bl e1,Bl A,G,e4⟩⟩ d
            .have zP:(l==0)=false:=D2 e4
             go_wp2;go_ret;exact Ay.no (P:=Cc o c 0 f l q m g) (λh=>by have:=h.M;unfold MV at this;simp at this;have h9:=this.2.2.2;omega) d
           .have zF:(f==0)=false:=D2 G
            go_wp2;go_ret;exact Ay.no (P:=Cc o c 0 f l q m g) (λh=>by have:=h.M;unfold MV at this;simp at this;have h9:=this.2.2.1;omega) d
          .have zO:=beq_eq_false_iff_ne.2 Yv;go_wp2;go_ret;exact Ay.no (P:=Cc o c 0 f l q m g) (λh=>by have:=h.M;unfold MV at this;simp at this;exact A (by rw[this.2.1];rfl)) d
         .have zN:=beq_eq_false_iff_ne.2 Yv;go_wp2;go_ret;exact Ay.no (P:=Cc o c 0 f l q m g) (λh=>by have:=h.M;unfold MV at this;simp at this;exact e1 (by rw[this.1];rfl)) d
        .have zW:(p==0)=false:=D2 p0
         go_wp2_with fail;refine(CS f 0 c wr).aj ?_;rintro e w1 ⟨rfl,rfl⟩;by_cases e1:0<=f/\f<=c
         .rw[decide_eq_true e1];have zV:=Lc Yv Yv;go_wp2_with fail;refine(CS l 1 (f+1) _).aj ?_;rintro e w1 ⟨rfl,rfl⟩;by_cases A:1<=l/\l<=f+1
          .rw[decide_eq_true A];by_cases p3:p=2
           .subst p3;go_wp2;go_ret;exact Ay.yes (P:=Cc o c 2 f l q m g) ⟨h1.1,h1.2,HS,.inr (.inr ⟨rfl,e1.1,e1.2,A.1,A.2⟩)⟩ d
           .have zX:(p==2)=false:=D2 p3
            obtain rfl:p=1:=Yv
            by_cases G:l=f+1
            .have zF:(l==f+1)=true:=D2 G
             go_wp2;go_ret;exact Ay.yes (P:=Cc o c 1 f l q m g) ⟨h1.1,h1.2,HS,.inr (.inl ⟨rfl,e1.1,e1.2,G⟩)⟩ d
            .have zF:(l==f+1)=false:=D2 G
             go_wp2;go_ret;exact Ay.no (P:=Cc o c 1 f l q m g) (λh=>by have:=h.M;unfold MV at this;simp at this;exact G this.2.2) d
          .rw[decide_eq_false A];go_wp2;go_ret;exact Ay.no (P:=Cc o c p f l q m g) (λh=>by rcases h.M with h|h|h;exact p0 h.1;exact A (Dz h.2.2.2);exact A h.2.2.2) d
         .rw[decide_eq_false e1];go_wp2;go_ret;exact Ay.no (P:=Cc o c p f l q m g) (λh=>by rcases h.M with h|h|h;exact p0 h.1;exact e1 ⟨h.2.1,h.2.2.1⟩;exact e1 ⟨h.2.1,h.2.2.1⟩) d
   .have G:decide ((600:Int)<(g.length:Int))=true:=Yt
    go_wp2;go_ret;exact Ay.no (P:=Cc o c p f l q m g) (λh=>h3 h.ft.nm) d
  .have A:decide ((23200:Int)<(m.length:Int))=true:=Yt
   go_wp2;go_ret;exact Ay.no (P:=Cc o c p f l q m g) (λh=>h2 h.ft.nq) d
 .rw[decide_eq_false h1];go_wp2;go_ret;exact Ay.no (P:=Cc o c p f l q m g) (λh=>h1 ⟨h.jy,h.kk⟩) d
end
structure KR (w V:Zh) (u v:Value):Prop where
 b0:V.cell? (Zd (w.1.size) 0)=some u
 b1:V.cell? (Zd (w.1.size) 1)=some v
 r0:V.cell? (Zd (w.1.size+1) 0)=some Zb
 r1:V.cell? (Zd (w.1.size+1) 1)=some Zb
 f:∀o,V.frozen? ⟨w.1.size+1,o,none⟩=false
 cu:Below w.1.size w V
 le:w.1.size+2<=V.1.size
theorem KR.alloc(h:KR w V u v)(o:Obj):KR w (V.alloc o) u v:=by
 have a:=(Below.refl V.1.size V).alloc (Zx) o;have:=h.le;exact⟨(a.cell (p:=⟨w.1.size,0,none⟩) Yt).ah h.b0,(a.cell (p:=⟨w.1.size,1,none⟩) Yt).ah h.b1,(a.cell (p:=⟨w.1.size+1,0,none⟩) Yt).ah h.r0,(a.cell (p:=⟨w.1.size+1,1,none⟩) Yt).ah h.r1,
  λo=>(a.frozen (p:=⟨w.1.size+1,o,none⟩) Yt).ah (h.f o),h.cu.alloc h.cu.size o,Yt⟩
theorem KR.drew(h:KR w V u v):KR w V.drew u v:=⟨h.b0,h.b1,h.r0,h.r1,h.f,h.cu.drew,h.le⟩
theorem KR.grown{b:Zh}{q:Nat}(h:KR w V u v)(a:V.grownBy b (some q))(d:w.1.size+2<=q):KR w b u v:=by
 have:=h.le;have:=a.size;exact⟨a.cell h.b0 Yt,a.cell h.b1 Yt,a.cell h.r0 Yt,a.cell h.r1 Yt,
  λo=>(a.frozen_far ⟨w.1.size+1,o,none⟩ Yt Yt).ah (h.f o),h.cu.grown a h.cu.size (λk c=>by cases c;omega),Yv⟩
theorem NV(z A:Zk)(c d:Nat)(h i:Zl)(w:Zh)(hr:Af w w.1.size z h)(Q:Af w w.1.size A i)(Y:z=none->h.length=0/\c=0)(Z:A=none->i.length=0/\d=0)(hl:h.length<=1048576)(zE:i.length<=1048576):
 D8 106 #[.agg #[C3 z h.length c,C3 A i.length d]] w λe b=>∃x f y g,e=C5 (.agg #[Yz x h.length f,Yz y i.length g])/\
  b.ownsRow w.1.size 9 1 (Yz x h.length f) h.length (h.map string)/\b.ownsRow w.1.size 9 1 (Yz y i.length g) i.length (i.map string)/\x≠y/\Zz w b:=by
 have⟨R,N,B,C,D⟩:=info_parts CC;have b:Below w.1.size w ((w.alloc (.cells #[C1 z h c,C1 A i d] 96)).alloc (.cells #[Zb,Zb] 96)):=(Zy).alloc Yu _;have⟨W,f⟩:=Ae ((w.alloc (.cells #[C1 z h c,C1 A i d] 96)).alloc (.cells #[Zb,Zb] 96));have P:KR w W (C1 z h c) (C1 A i d):=by rw[f];exact⟨by simp[go_sem],by simp[go_sem],by simp[go_sem],by simp[go_sem],λo=>by simp[go_sem],b,Yu⟩
 have g:=Yw f;have t:=Yw P;go_enter func106,ntmps106;go_wp2_with fail;rw[<-g.o];obtain⟨b0,b1,r0,r1,f0,_,zF⟩:=P;have⟨a0,a1,_,_,_,_,_⟩:=t.alloc (.cells #[] 9);have⟨zB,zC,_,_,_,_,_⟩:=(t.alloc (.cells #[] 9)).alloc (.cells #[] 9);clear f b g
 have oA:(W.alloc (.cells #[] 9)).drew.ownsRow (w.1.size+2) 9 1 (Yz W.1.size 0 0) 0 (([]:Zl).map string):=ownsRow_lit W #[] 0 Yv Yo rfl
 have H:((W.alloc (.cells #[] 9)).alloc (.cells #[] 9)).drew.ownsRow (w.1.size+2) 9 1 (Yz W.1.size 0 0) 0 (([]:Zl).map string):=ownsRow.alloc (ownsRow_lit W #[] 0 Yv Yo rfl) _;have I:((W.alloc (.cells #[] 9)).alloc (.cells #[] 9)).drew.ownsRow (w.1.size+2) 9 1 (Yz (W.1.size+1) 0 0) 0 (([]:Zl).map string):=by have h1:=ownsRow_lit (base:=w.1.size+2) (e:=9) (size:=1) (W.alloc (.cells #[] 9)) #[] 0 Yt Yo rfl;rw[Al]at h1;exact h1
 have y:=(hr.A (t.alloc (.cells #[] 9)).drew.cu).bk;have zA:=(Q.A (t.alloc (.cells #[] 9)).drew.cu).bk;have G:=(hr.A ((t.alloc (.cells #[] 9)).alloc (.cells #[] 9)).drew.cu).bk;have x:=(Q.A ((t.alloc (.cells #[] 9)).alloc (.cells #[] 9)).drew.cu).bk
 go_region_law (first
  |(guard_target=if Region.wanted _ _=true then Oper.wp _ _ _ (W.alloc (.cells #[] 9)).drew _ _ else _;refine AA (W.alloc (.cells #[] 9)).drew rfl (.tmp 3) (.tmp 5) 28 rfl (w.1.size+2) 9 R Zc 16 underlying28 N B C D rfl (W.1.size) 0 0 [] rfl oA z h.length c h rfl rfl Y y Yo Yv Yl ?_;intro S F K s k l L;simp only[A0,nil_append]at s;have J:=k.size;simp at J l;have j:=(t.alloc _).drew.grown k Yv;have c0:=j.b0;have c1:=j.b1;have d0:=(j.alloc (.cells #[] 9)).b0;have d1:=(j.alloc (.cells #[] 9)).b1;have T:=J)
  |(guard_target=if Region.wanted _ _=true then Oper.wp _ _ _ ((W.alloc (.cells #[] 9)).alloc (.cells #[] 9)).drew _ _ else _;refine AA ((W.alloc (.cells #[] 9)).alloc (.cells #[] 9)).drew rfl (.tmp 3) (.tmp 5) 28 rfl (w.1.size+2) 9 R Zc 16 underlying28 N B C D rfl (W.1.size) 0 0 [] rfl H z h.length c h rfl rfl Y G Yo Yv Yl ?_;intro S F K s k l L;simp only[A0,nil_append]at s;have J:=k.size;simp at J l;have j:=((t.alloc _).alloc _).drew.grown k Yv;have c0:=j.b0;have c1:=j.b1;have q:=I.kept k (.inr (by simp[ownBlock]));have U:=J)
  |(guard_target=if Region.wanted _ _=true then Oper.wp _ _ _ ((W.alloc (.cells #[] 9)).alloc (.cells #[] 9)).drew _ _ else _;refine AA ((W.alloc (.cells #[] 9)).alloc (.cells #[] 9)).drew rfl (.tmp 3) (.tmp 5) 28 rfl (w.1.size+2) 9 R Zc 16 underlying28 N B C D rfl (W.1.size+1) 0 0 [] rfl I z h.length c h rfl rfl Y G Yo Yv Yl ?_;intro S F K s k l L;simp only[A0,nil_append]at s;have J:=k.size;simp at J l;have j:=((t.alloc _).alloc _).drew.grown k Yv;have c0:=j.b0;have c1:=j.b1;have q:=H.kept k (.inr (by simp[ownBlock]));have V:=J)
  |(have r:=T;refine AA (K.alloc (.cells #[] 9)) rfl (.tmp 7) (.tmp 9) 28 rfl (w.1.size+2) 9 R Zc 16 underlying28 N B C D rfl (K.1.size) 0 0 [] rfl (ownsRow_lit K #[] 0 Yv Yo rfl) A i.length d i rfl rfl Z (Q.A (j.alloc _).cu).bk Yo Yv Yl ?_;intro E n w9 f b g u;simp only[A0,nil_append]at f;have X:=b.size;(try simp at X g);have e:=(s.alloc _).kept b (.inr (by simp[ownBlock];omega));have M:=f;have O:S≠E:=Yv;have m:=(j.alloc _).grown b Yv;have y0:=m.r0;have y1:=m.r1;have yf:=m.f)
  |(have r:=U;refine AA K rfl (.tmp 7) (.tmp 9) 28 rfl (w.1.size+2) 9 R Zc 16 underlying28 N B C D rfl (W.1.size+1) 0 0 [] rfl q A i.length d i rfl rfl Z (Q.A j.cu).bk Yo Yv Yl ?_;intro E n w9 f b g u;simp only[A0,nil_append]at f;have X:=b.size;(try simp at X g);have e:=s.kept b (.inr (by simp[ownBlock];omega));have M:=f;have O:S≠E:=Yv;have m:=j.grown b Yv;have y0:=m.r0;have y1:=m.r1;have yf:=m.f)
  |(have r:=V;refine AA K rfl (.tmp 7) (.tmp 9) 28 rfl (w.1.size+2) 9 R Zc 16 underlying28 N B C D rfl (W.1.size) 0 0 [] rfl q A i.length d i rfl rfl Z (Q.A j.cu).bk Yo Yv Yl ?_;intro E n w9 f b g u;simp only[A0,nil_append]at f;have X:=b.size;(try simp at X g);have e:=s.kept b (.inr (by simp[ownBlock];omega));have M:=f;have O:S≠E:=Yv;have m:=j.grown b Yv;have y0:=m.r0;have y1:=m.r1;have yf:=m.f))
 all_goals
  have o:=Yw (Zn e (Zn M (Zn O m)));clear m;clear e M O oA H I y zA G x hr Q t;go_wp2;refine C0 (.agg #[C7 S h F,C7 E i n]) (by simp[results,results106,go_sem,y0,y1]) ⟨_,_,_,_,rfl,?_,?_,o.2.2.1,?_⟩
  .exact(ownsRow_setCell_below (ownsRow_setCell_below o.1 (a:=⟨w.1.size+1,0,none⟩) Yu _) (a:=⟨w.1.size+1,1,none⟩) Yu _).aj Yv
  .exact(ownsRow_setCell_below (ownsRow_setCell_below o.2.1 (a:=⟨w.1.size+1,0,none⟩) Yu _) (a:=⟨w.1.size+1,1,none⟩) Yu _).aj Yv
  .exact(o.2.2.2.cu.setCell (p:=⟨w.1.size+1,0,none⟩) Yu _).setCell (p:=⟨w.1.size+1,1,none⟩) Yu _
inductive Reach (ks:List Kd) (from':Zl):Zi->Prop
 |here {x:Zi}:x∈from'->Reach ks from' x
 |step {x y:Zi} {u:Kd}:Reach ks from' y->u∈ks->u.sum=y->x∈u.B->Reach ks from' x
section
attribute [local go_sem↓] Go.wp_at_zero Go.wp_at_succ
theorem Mj{c:Dj}{y x:Zi}:x∈Cq (ZJ c) y↔∃u∈c,u.sum=y/\x∈u.B:=by
 unfold Cq ZJ;rw[mem_filterMap];constructor
 .rintro⟨p,a,e⟩;rw[mem_flatMap]at a;obtain⟨u,b,a⟩:=a;obtain⟨r,d,rfl⟩:=mem_map.1 a;split at e
  .rename_i h
   cases e;exact⟨u,b,h,d⟩
  .cases e
 .rintro⟨u,b,rfl,f⟩;exact⟨(u.sum,x),mem_flatMap.2 ⟨u,b,mem_map.2 ⟨x,f,rfl⟩⟩,Yu⟩
theorem VP{e:Dj}{d:Zl}:ReachE (ZJ e) d s↔Reach e d s:=by
 constructor
 .intro h;induction h with
  |here a=>exact .here a
  |step _ a ih=>have⟨u,c,b,a⟩:=Mj.1 a;exact .step ih c b a
 .intro h;induction h with
  |here a=>exact .here a
  |step _ c b a ih=>exact .step ih (Mj.2 ⟨_,c,b,a⟩)
structure Hl (wd:Int) (ks:List Kd) (ps:List Pd) (ls:List Ld):Prop where
 w8:wd<=8
 nk:ks.length<=600
 np:ps.length<=100
 nl:ls.length<=200
 fc:∀k∈ks,k.B.length<=30
 sum:∀k∈ks,(k.sum.size:Int)=wd
 ju:∀k∈ks,∀r∈k.B,(r.size:Int)=wd
 ref:∀k∈ks,∀r∈k.B,Am ks r
 cj:∀p∈ps,Am ks p.sum
 bu:∀l∈ls,Am ks l.sum
 uniq:∀u∈ks,∀v∈ks,u.sum=v.sum->u=v
theorem Hl.sz{a:Int}{ks:Dj}{e:Dy}{d:Dv}(h:Hl a ks e d)(b:Am ks s):(s.size:Int)=a:=by obtain⟨u,c,rfl⟩:=b;exact h.sum u c
theorem Mk{a:Int}(h:Aw w b e d c a T P L):w.cell? (Zd b 0)=some (Zg e)/\w.cell? (Zd b 1)=some (Zg d)/\w.cell? (Zd b 2)=some (Zg c)/\w.cell? (Zd b 3)=some (Zg a)/\w.cell? (Zd b 4)=some T/\w.cell? (Zd b 5)=some P/\w.cell? (Zd b 6)=some L:=
 ⟨h.1,h.2.1,h.2.2.1,h.2.2.2.1,h.2.2.2.2.1,h.2.2.2.2.2.1,h.2.2.2.2.2.2.1⟩
theorem RE{V:List Nat}{X Y:Zh}(a:Zz w X)(h:DR X.1.size V X Y):DR w.1.size V w Y:=
 ⟨h.os.ah a.os,h.tape.ah a.tape,h.output.ah a.output,Zm a.size h.size,λq b c=>(h.old q (Zr b a.size) c).ah (a.block q b),λq o b b _=>Dz (A2.1 b).1⟩
theorem Aw.same{g:Zh}{k:Int}(h:Aw w b k f e d T P L)(r:g.1[b]?=w.1[b]?):Aw g b k f e d T P L:=by obtain⟨i,l,m,n,o,p,q,s⟩:=h;have c:=λj=>cell?_of_block (a:=⟨b,j,none⟩) r;refine⟨(c 0).ah i,(c 1).ah l,(c 2).ah m,(c 3).ah n,(c 4).ah o,(c 5).ah p,(c 6).ah q,?_⟩;exact A6 g _ ((c 0).ah i)
end
theorem Ml(h:∀(i:Nat) k,a[i]?=some k->Fg f a i k):∀(d i:Nat) u v,a[i]?=some u->a[i+d+1]?=some v->less u.sum v.sum=true:=by
 intro d;induction d with
 |zero=>intro i u v c b;exact(h _ _ b).up _ _ rfl c
 |succ d ih=>intro i u v c b;have g:=(Zw b).1;have e:a[i+d+1]?=some a[i+d+1]:=Zv Yv;exact BV (ih i u _ c e) ((h _ _ b).up _ _ Yv e)
theorem Uy{t:Int}{n:Dj}{q:Dy}{o:Dv}(h:AJ f t d c n q o):Hl f n q o:=by
 have s:∀k∈n,AG k.J k.B f=true:=λk b=>by have⟨i,a⟩:=A5 b;exact(h.th i k a).ok
 refine⟨h.bn.ib,h.nth,h.np,h.nl,λk b=>(Bj (s k b)).B,λk b=> ?_,λk b r g=> ?_,λk b r g=> ?_,λp y=> ?_,λl x=> ?_,λu m v z e=> ?_⟩
 .obtain⟨i,a⟩:=A5 b;rw[(h.th i k a).sum];exact Fx k f h.bn.gm
 .obtain⟨i,a⟩:=A5 g;exact(Bj (s k b)).size a
 .obtain⟨i,a⟩:=A5 b;have⟨u,m,w,_⟩:=h.ref i k a r g;exact⟨u,m,w⟩
 .obtain⟨i,a⟩:=A5 y;exact(h.cj i p a).sum
 .obtain⟨i,a⟩:=A5 x;exact(h.bu i l a).sum
 .obtain⟨i,a⟩:=A5 m;have⟨j,b⟩:=A5 z;rcases Nat.lt_trichotomy i j with g|g|g
  .have:=Ml h.th (j -i -1) i u v a (by rw[show i+(j -i -1)+1=j by omega];exact b);rw[e,By]at this;cases this
  .subst g;rw[a]at b;exact A4 b
  .have:=Ml h.th (i -j -1) j v u b (by rw[show j+(i -j -1)+1=i by omega];exact a);rw[e,By]at this;cases this
