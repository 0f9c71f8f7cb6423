import Derived.Test.YtcankpdbabaacaaGreatDoorX27
set_option maxRecDepth 100000
set_option maxHeartbeats 16000000
namespace Go.Proofs.YtcankpdbabaacaaGreatDoor
open Go.ChangeShapes Go.WideShapes Go.ChangeAt Go.RowKit _root_.Go.Proofs.Tryz
section
attribute [local go_sem↓] Go.wp_at_zero Go.wp_at_succ
theorem Md(Y P j d J s c b:Int)(a p l a' p' l':Zk)(ac pc lc zE zI zH:Nat)(z o:List Kd)(C r:List Pd)(B q:List Ld)(w:Zh)(H:BI w w.heap.size a p l z C B)(G:BI w w.heap.size a' p' l' o r q)(hl:z.length<=100000/\C.length<=100000/\B.length<=100000)(yJ:o.length<=1048576/\r.length<=1048576/\q.length<=1048576)(Q:∀k∈z,k.B.length<=100000)(R:∀k∈o,k.B.length<=1048576):
 Calls prog 44 #[.agg (Yi Y P j d a z.length ac p C.length pc l B.length lc),.agg (Yi J s c b a' o.length zE p' r.length zI l' q.length zH)] w fun e w'=>Ap ((Y=J/\P=s/\j=c/\d=b)/\z=o/\C=r/\B=q) w w' e:=by
 obtain⟨W,hW⟩:∃W,W=(w.alloc (.cells (Yi Y P j d a z.length ac p C.length pc l B.length lc) 40)).alloc (.cells (Yi J s c b a' o.length zE p' r.length zI l' q.length zH) 40):=⟨_,rfl⟩;have S:=(Bo hW).1;have t:=(Bo hW).2.2.1;have u:Aa W (w.heap.size+1) (Yj J s c b a' o.length zE p' r.length zI l' q.length zH):=by have Q:=Aa.new (w.alloc (.cells (Yi Y P j d a z.length ac p C.length pc l B.length lc) 40)) (Yj J s c b a' o.length zE p' r.length zI l' q.length zH) 40;rw[World.size_alloc]at Q;rw[hW];exact Q
 have HX:Hid (∀X,Zz W X->Aa X w.heap.size (Yj Y P j d a z.length ac p C.length pc l B.length lc)/\Aa X (w.heap.size+1) (Yj J s c b a' o.length zE p' r.length zI l' q.length zH)/\BI X w.heap.size a p l z C B/\BI X w.heap.size a' p' l' o r q/\Zz w X):=fun X hX=>by have A:=S.trans (hX.mono S.size);exact⟨Aa.below t hX,Aa.below u hX,H.ah A,G.ah A,A⟩
 have zW:=(Bo hW).2.1;obtain⟨zX,_⟩:=t 0 _ rfl;obtain⟨yD,_⟩:=u 0 _ rfl;obtain⟨zY,_⟩:=t 1 _ rfl;obtain⟨yE,_⟩:=u 1 _ rfl;obtain⟨zZ,_⟩:=t 2 _ rfl;obtain⟨yF,_⟩:=u 2 _ rfl;obtain⟨yA,_⟩:=t 3 _ rfl;obtain⟨yG,_⟩:=u 3 _ rfl;obtain⟨K,_⟩:=t 4 _ rfl;obtain⟨L,_⟩:=u 4 _ rfl;obtain⟨yB,_⟩:=t 5 _ rfl;obtain⟨yH,_⟩:=u 5 _ rfl;obtain⟨yC,_⟩:=t 6 _ rfl;obtain⟨yI,_⟩:=u 6 _ rfl;have D:=Yx hW;clear hW H G t u
 by_cases e0:Y=J
 .have b0:(Y !=J)=false:=by simp[e0]
  have E0:=Yx e0;clear e0;by_cases e1:P=s
  .have b1:(P !=s)=false:=by simp[e1]
   have E1:=Yx e1;clear e1;by_cases e2:j=c
   .have b2:(j !=c)=false:=by simp[e2]
    have E2:=Yx e2;clear e2;by_cases e3:d=b
    .have b3:(d !=b)=false:=by simp[e3]
     have E3:=Yx e3;clear e3;by_cases e4:z.length=o.length
     .have b4:((z.length:Int) !=(o.length:Int))=false:=by simp[e4]
      have E4:=Yx e4;clear e4;by_cases e5:C.length=r.length
      .have b5:((C.length:Int) !=(r.length:Int))=false:=by simp[e5]
       have E5:=Yx e5;clear e5;by_cases e6:B.length=q.length
       .have b6:((B.length:Int) !=(q.length:Int))=false:=by simp[e6]
        have E6:=Yx e6;clear e6;go_enter func44,ntmps44;go_upto_region 1 with fail;rw[<-D.o];clear D;go_wp2;clear b0 b1 b2 b3 b4 b5 b6
        go_loopw [5] (fun i wr=>∃k:Nat,k<=z.length/\i=Zg k/\Hid (z.take k=o.take k/\Zz W wr)) (fun i _=>z.length -(intOf i).toNat)
        case atStart=>exact⟨0,Nat.zero_le _,rfl,⟨Yv,Below.refl _ _⟩⟩
        case round=>
         clear zX yD zY yE zZ yF yA yG K L yB yH yC yI;obtain⟨k,hk,rfl,v⟩:=hrel;obtain⟨t,u,H,G,g⟩:=HX.o wr v.o.2;have zS:=v.o.2.size;obtain⟨K,_⟩:=t 4 _ rfl;obtain⟨L,_⟩:=u 4 _ rfl;by_cases hlt:k<z.length
         .have f:k<o.length:=by have:=E4.o;omega
          obtain⟨rb,ro,ha,zG,O⟩:=H.k.at hlt;obtain⟨qb,qo,A,zF,N⟩:=G.k.at f;subst ha A;obtain⟨c0,c1,c2,ra,rc,c3,zR⟩:=O k _ (Zv hlt);obtain⟨d0,d1,d2,sa,sc,d3,zP⟩:=N k _ (Zv f);have U:=Zr zG g.size;have T:=Zr zF g.size;have zB:=Yx (Zu hlt);have zC:=Yx (Zu f);have HN:Hid (∀x y,z[k]?=some x->o[k]?=some y->x≠y->z≠o):=fun x y Q R V e=>by subst e;rw[Q]at R;exact V (Option.some.inj R)
          have E:=Yx (Zv hlt);have F:=Yx (Zv f);have zO:(k:Int)<o.length:=Yw
          have m1:=Q _ (List.getElem_mem hlt);have m2:=R _ (List.getElem_mem f);clear O N;generalize z[k]=x at *
          generalize o[k]=y at *
          have HB:=Yx v.o.2;have HC:Hid (∀n:Ar wr,Calls prog 92 #[.agg #[.string x.M,.slice ra x.B.length rc],.agg #[.string y.M,.slice sa y.B.length sc]] n.w fun e w'=>e=.returned (.bool (decide (x.M=y.M/\x.B=y.B)))/\Below n.w.heap.size n.w w'):=fun n=>by
           have zN:=g.trans (n.h.mono g.size);refine(Mc x.M y.M ra sa rc sc x.B y.B n.w ((zR.below (n.h.mono g.size)).mono zN.size) ((zP.below (n.h.mono g.size)).mono zN.size) m1 m2).mono ?_;rintro e w' ⟨bb,rfl,zM,zK⟩;refine⟨?_,zK⟩;by_cases hP:x.M=y.M/\x.B=y.B
           .rw[zM.2 hP,decide_eq_true hP]
           .cases bb with
            |true=>exact absurd (zM.1 rfl) hP
            |false=>rw[decide_eq_false hP]
          have q1:=Ar.cell K Yw;have q2:=Ar.cell L Yw;have r0:=Ar.cell c0 U;have s0:=Ar.cell d0 T;have r1:=Ar.cell c1 U;have s1:=Ar.cell d1 T;have r2:=Ar.cell c2 U;have s2:=Ar.cell d2 T;have r3:=Ar.cell c3 U;have s3:=Ar.cell d3 T;have V:=Ar.ne wr;have HE:Hid (∀n:Ar wr,Zz W n.w):=fun n=>HB.o.trans (n.h.mono HB.o.size);clear t u H G zR zP g;by_cases hs:x.sum=y.sum
          .have zU:(x.sum.toList !=y.sum.toList)=false:=by rw[hs];simp
           have zV:(x.sum.toList==y.sum.toList)=true:=by rw[hs];simp
           by_cases A:x.born=y.born
           .have zK:(x.born !=y.born)=false:=by simp[A]
            have zT:(x.born==y.born)=true:=by simp[A]
            by_cases hP:x.M=y.M/\x.B=y.B
            .rw[decide_eq_true hP]at HC;have M:Hid (x=y):=by obtain⟨e1,e2⟩:=hP;show x=y;cases x;cases y;simp_all
             clear hP hs A;go_wp2;refine Au Yt Yt ?_
             repeat (go_big_quiet_step (exact Ar.calls (HC.o _)))
             refine wpQuiet_nil ?_;intro n;clear q1 q2 r0 r1 r2 r3 s0 s1 s2 s3 K L c0 c1 c2 c3 d0 d1 d2 d3;go_wp2;exact⟨⟨k+1,Yw,Yp,⟨by rw[zB.o,zC.o,v.o.1,M.o],HE.o n⟩⟩,by simp[intOf];omega⟩
            .rw[decide_eq_false hP]at HC;have zA:=Yx hP;clear hP hs A;go_wp2;refine Au Yt Yt ?_
             repeat (go_big_quiet_step (exact Ar.calls (HC.o _)))
             refine wpQuiet_nil ?_;intro n;have Z:=Yx ((HX.o _ (HE.o n)).2.2.2.2);clear q1 q2 r0 r1 r2 r3 s0 s1 s2 s3 K L c0 c1 c2 c3 d0 d1 d2 d3;go_wp2;go_ret;exact Ap.no (fun h=>HN.o x y E.o F.o (fun e=>zA.o (by rw[e];exact⟨rfl,rfl⟩)) h.2.1) Z.o
           .have zK:(x.born !=y.born)=true:=by simp[A]
            have zT:(x.born==y.born)=false:=by simp[A]
            have zA:=Yx A;clear A hs;go_wp2;refine Au Yt Yt ?_
            repeat (go_big_quiet_step (exact Ar.calls (HC.o _)))
            refine wpQuiet_nil ?_;intro n;have Z:=Yx ((HX.o _ (HE.o n)).2.2.2.2);clear q1 q2 r0 r1 r2 r3 s0 s1 s2 s3 K L c0 c1 c2 c3 d0 d1 d2 d3;go_wp2;go_ret;exact Ap.no (fun h=>HN.o x y E.o F.o (fun e=>zA.o (by rw[e])) h.2.1) Z.o
          .have zU:(x.sum.toList !=y.sum.toList)=true:=by simp[bne,Cd hs]
           have zV:=Cd hs;have zA:=Yx hs;clear hs;go_wp2;refine Au Yt Yt ?_
           repeat (go_big_quiet_step (exact Ar.calls (HC.o _)))
           refine wpQuiet_nil ?_;intro n;have Z:=Yx ((HX.o _ (HE.o n)).2.2.2.2);clear q1 q2 r0 r1 r2 r3 s0 s1 s2 s3 K L c0 c1 c2 c3 d0 d1 d2 d3;go_wp2;go_ret;exact Ap.no (fun h=>HN.o x y E.o F.o (fun e=>zA.o (by rw[e])) h.2.1) Z.o
         .obtain rfl:k=z.length:=Yw
          have m:=v.o.1;rw[Zt (Zx),Zt (by have:=E4.o;omega)]at m;have HK:=Yx m;have zJ:=Yx v.o.2;clear m t u H G g;go_wp2
          go_loopw [6] (fun i wr=>∃k:Nat,k<=C.length/\i=Zg k/\Hid (C.take k=r.take k/\Zz W wr)) (fun i _=>C.length -(intOf i).toNat)
          case atStart=>exact⟨0,Nat.zero_le _,rfl,⟨Yv,zJ.o⟩⟩
          case round=>
           obtain⟨k,hk,rfl,v⟩:=hrel;obtain⟨t,u,H,G,g⟩:=HX.o wr v.o.2;have zS:=v.o.2.size;obtain⟨K,_⟩:=t 5 _ rfl;obtain⟨L,_⟩:=u 5 _ rfl;by_cases hlt:k<C.length
           .have f:k<r.length:=by have:=E5.o;omega
            obtain⟨rb,ro,ha,zG,O⟩:=H.p.at hlt;obtain⟨qb,qo,A,zF,N⟩:=G.p.at f;subst ha A;obtain⟨c0,c1⟩:=O k _ (Zv hlt);obtain⟨d0,d1⟩:=N k _ (Zv f);have U:=Zr zG g.size;have T:=Zr zF g.size;have zB:=Yx (Zu hlt);have zC:=Yx (Zu f);have HN:Hid (∀x y,C[k]?=some x->r[k]?=some y->x≠y->C≠r):=fun x y Q R V e=>by subst e;rw[Q]at R;exact V (Option.some.inj R)
            have E:=Yx (Zv hlt);have F:=Yx (Zv f);have zO:(k:Int)<r.length:=Yw
            clear O N;generalize C[k]=x at *
            generalize r[k]=y at *
            have HB:=Yx v.o.2;have I:=Yx g;clear t u H G g;by_cases hxy:x=y
            .subst hxy;go_wp2
             go_region
             all_goals go_wp2
             all_goals exact⟨⟨k+1,Yw,Yp,⟨by rw[zB.o,zC.o,v.o.1],HB.o.drew⟩⟩,by simp[intOf];omega⟩
            .have M:=Yx hxy;by_cases n0:x.name=y.name
             .have k0:x.name.toList=y.name.toList:=by rw[n0]
              have n1:¬x.sum=y.sum:=fun e=>hxy (by
               cases x;cases y;simp_all)
              have k1:¬x.sum.toList=y.sum.toList:=fun e=>n1 (Gj e);clear hxy n0 n1;go_wp2
              go_region
              all_goals go_wp2
              all_goals go_ret
              all_goals exact Ap.no (fun h=>HN.o x y E.o F.o M.o h.2.2.1) I.o.drew
             .have k0:¬x.name.toList=y.name.toList:=fun e=>n0 (Gj e);clear n0 hxy;go_wp2
              go_region
              all_goals go_wp2
              all_goals go_ret
              all_goals exact Ap.no (fun h=>HN.o x y E.o F.o M.o h.2.2.1) I.o.drew
           .obtain rfl:k=C.length:=Yw
            have m:=v.o.1;rw[Zt (Zx),Zt (by have:=E5.o;omega)]at m;have HP:=Yx m;have zJ:=Yx v.o.2;have I:=Yx g;clear m t u H G g;go_wp2
            go_loopw [7] (fun i wr=>∃k:Nat,k<=B.length/\i=Zg k/\Hid (B.take k=q.take k/\Zz W wr)) (fun i _=>B.length -(intOf i).toNat)
            case atStart=>exact⟨0,Nat.zero_le _,rfl,⟨Yv,zJ.o⟩⟩
            case round=>
             obtain⟨k,hk,rfl,v⟩:=hrel;obtain⟨t,u,H,G,g⟩:=HX.o wr v.o.2;have zS:=v.o.2.size;obtain⟨K,_⟩:=t 6 _ rfl;obtain⟨L,_⟩:=u 6 _ rfl;by_cases hlt:k<B.length
             .have f:k<q.length:=by have:=E6.o;omega
              obtain⟨rb,ro,ha,zG,O⟩:=H.l.at hlt;obtain⟨qb,qo,A,zF,N⟩:=G.l.at f;subst ha A;obtain⟨c0,c1,c2⟩:=O k _ (Zv hlt);obtain⟨d0,d1,d2⟩:=N k _ (Zv f);have U:=Zr zG g.size;have T:=Zr zF g.size;have zB:=Yx (Zu hlt);have zC:=Yx (Zu f);have HN:Hid (∀x y,B[k]?=some x->q[k]?=some y->x≠y->B≠q):=fun x y Q R V e=>by subst e;rw[Q]at R;exact V (Option.some.inj R)
              have E:=Yx (Zv hlt);have F:=Yx (Zv f);have zO:(k:Int)<q.length:=Yw
              clear O N;generalize B[k]=x at *
              generalize q[k]=y at *
              have HB:=Yx v.o.2;have I:=Yx g;clear t u H G g;by_cases hxy:x=y
              .subst hxy;go_wp2
               go_region
               all_goals go_wp2
               all_goals exact⟨⟨k+1,Yw,Yp,⟨by rw[zB.o,zC.o,v.o.1],HB.o.drew⟩⟩,by simp[intOf];omega⟩
              .have M:=Yx hxy;by_cases n0:x.V=y.V
               .have k0:=n0;by_cases n1:x.sum=y.sum
                .have k1:x.sum.toList=y.sum.toList:=by rw[n1]
                 have n2:¬x.bg=y.bg:=fun e=>hxy (by
                  cases x;cases y;simp_all)
                 clear hxy n1;go_wp2
                 go_region
                 all_goals go_wp2
                 all_goals go_ret
                 all_goals exact Ap.no (fun h=>HN.o x y E.o F.o M.o h.2.2.2) I.o.drew
                .have k1:¬x.sum.toList=y.sum.toList:=fun e=>n1 (Gj e);clear n1 hxy;go_wp2
                 go_region
                 all_goals go_wp2
                 all_goals go_ret
                 all_goals exact Ap.no (fun h=>HN.o x y E.o F.o M.o h.2.2.2) I.o.drew
               .clear hxy;go_wp2
                go_region
                all_goals go_wp2
                all_goals go_ret
                all_goals exact Ap.no (fun h=>HN.o x y E.o F.o M.o h.2.2.2) I.o.drew
             .obtain rfl:k=B.length:=Yw
              have m:=v.o.1;rw[Zt (Zx),Zt (by have:=E6.o;omega)]at m;have HL:=Yx m;have zJ:=Yx v.o.2;have I:=Yx g;clear m t u H G g;go_wp2;go_ret;exact Ap.yes ⟨⟨E0.o,E1.o,E2.o,E3.o⟩,HK.o,HP.o,HL.o⟩ I.o
       .have b6:=bne_iff_ne.2 Yw;go_enter func44,ntmps44;go_upto_region 1 with fail;rw[<-D.o];clear D;go_wp2;go_ret;exact Ap.no (fun h=>e6 (by rw[h.2.2.2])) S
      .have b5:=bne_iff_ne.2 Yw;go_enter func44,ntmps44;go_upto_region 1 with fail;rw[<-D.o];clear D;go_wp2;go_ret;exact Ap.no (fun h=>e5 (by rw[h.2.2.1])) S
     .have b4:=bne_iff_ne.2 Yw;go_enter func44,ntmps44;go_upto_region 1 with fail;rw[<-D.o];clear D;go_wp2;go_ret;exact Ap.no (fun h=>e4 (by rw[h.2.1])) S
    .have b3:(d !=b)=true:=by simp[e3]
     go_enter func44,ntmps44;go_upto_region 1 with fail;rw[<-D.o];clear D;go_wp2;go_ret;exact Ap.no (fun h=>e3 h.1.2.2.2) S
   .have b2:(j !=c)=true:=by simp[e2]
    go_enter func44,ntmps44;go_upto_region 1 with fail;rw[<-D.o];clear D;go_wp2;go_ret;exact Ap.no (fun h=>e2 h.1.2.2.1) S
  .have b1:(P !=s)=true:=by simp[e1]
   go_enter func44,ntmps44;go_upto_region 1 with fail;rw[<-D.o];clear D;go_wp2;go_ret;exact Ap.no (fun h=>e1 h.1.2.1) S
 .have b0:(Y !=J)=true:=by simp[e0]
  go_enter func44,ntmps44;go_upto_region 1 with fail;rw[<-D.o];clear D;go_wp2;go_ret;exact Ap.no (fun h=>e0 h.1.1) S
end
theorem UX(a b:Zk)(c d:Nat)(f h:Zl)(w:Zh)(M:Ad w w.heap.size a f)(L:Ad w w.heap.size b h)(Z:a=none->f.length=0/\c=0)(hb:b=none->h.length=0/\d=0)(hl:f.length<=1048576)(zA:h.length<=1048576):
 Calls prog 43 #[.agg #[.slice a f.length c,.slice b h.length d]] w fun e R=>∃g cap,e=.returned (Za g (f++h).length cap)/\R.ownsRow w.heap.size 9 1 (Za g (f++h).length cap) (f++h).length ((f++h).map Value.string)/\Zz w R:=by
 obtain⟨N,K,x,y,z⟩:=info_parts Dw;obtain⟨W,m⟩:∃W,W=w.alloc (.cells #[.slice a f.length c,.slice b h.length d] 35):=⟨_,rfl⟩;have o:=(AA m).1;have zW:=(AA m).2.1;have E:=(AA m).2.2;have A:Below W.heap.size W (W.alloc (.cells #[] 9)):=Zy;have P:(W.alloc (.cells #[] 9)).drew.ownsRow (w.heap.size+1) 9 1 (Za (w.heap.size+1) 0 0) 0 (([]:Zl).map Value.string):=by have J:=World.ownsRow_lit (base:=w.heap.size+1) (e:=9) (size:=1) W #[] 0 Yw Yq rfl;rw[zW]at J;exact J
 have Q:=(Ad.below M (o.trans (A.drew.mono o.size))).bj;have G:=Aa.below E A;obtain⟨y0,y1⟩:=Aa.c2 E 0 1;obtain⟨z0,z1⟩:=Aa.c2 G 0 1;have H:=Yx m;have I:=Yx (Zn G (o.trans (A.mono o.size)));have V:Hid (Ad w w.heap.size b h):=L;clear m E G M L;go_enter func43,ntmps43;go_upto_region 1 with fail;rw[<-H.o];clear H
 go_region_law (first
  |(refine BJ (W.alloc (.cells #[] 9)).drew rfl (.tmp 3) (.tmp 5) 22 rfl (w.heap.size+1) 9 N Zd 16 underlying22 K x y z rfl (w.heap.size+1) 0 0 [] rfl P a f.length c f rfl rfl Z Q Yq Yw Yo ?_;intro C p D l j q s;simp only[Nat.zero_add,List.nil_append]at l;have F:Aa D w.heap.size [.slice a f.length c,.slice b h.length d]:=(Aa.same I.o.1 (j.block _ Yo Yo));have n:Below w.heap.size w D:=(I.o.2.drew.grown j Yo (fun k B=>by cases B;omega));have X:=(F 0 _ rfl).1;have Y:=(F 1 _ rfl).1;have r6:=(Ad.below V.o n).bj;have T:=j.size;simp at T)
  |(refine BJ D rfl (.tmp 6) (.tmp 8) 22 rfl (w.heap.size+1) 9 N Zd 16 underlying22 K x y z rfl C f.length p f rfl l b h.length d h rfl rfl hb r6 Yq Yw Yw ?_;intro O i S v u r t))
 all_goals
  have l6:w.heap.size+1<=C:=(l.lt C rfl).1;have U:Hid (S.ownsRow w.heap.size 9 1 (Za O (f.length+h.length) i) (f.length+h.length) ((f++h).map Value.string)/\Zz w S):=⟨v.mono Yw,n.grown u n.size (fun k B=>by cases B;omega)⟩;clear l j q s F n X Y r6 T v u r t P Q y0 y1 z0 z1;go_wp2;go_ret;rw[List.length_append];exact⟨O,i,rfl,U.o⟩
section
attribute [local go_sem↓] Go.wp_at_zero Go.wp_at_succ
theorem KI{a:Zl}:a.Nodup↔∀(j:Nat) x,a[j]?=some x->x∉a.take j:=by
 unfold List.Nodup;rw[List.pairwise_iff_getElem];constructor
 .intro h j x b k;obtain⟨g,rfl⟩:=Zw b;obtain⟨i,c,e⟩:=List.getElem_of_mem k;have d:i<j:=by simp at c;omega
  rw[List.getElem_take]at e;exact h i j Yw g d e
 .intro h i j c b l e;refine h j a[j] (Zv b) ?_;rw[<-e];have f:i<(a.take j).length:=Yu
  have:=List.getElem_mem f;rw[List.getElem_take]at this;exact this
theorem Ad.front{w:Zh}{B:Nat}{a:Zk}{c:Zl}(h:Ad w B a c)(K:Nat):Ad w B a (c.take K):=by
 rcases h with h|⟨q,d,e,f,g⟩
 .exact .inl (by simp[h])
 .refine .inr ⟨q,d,e,f,fun i s b=>g i s ?_⟩;have j:=(Zw b).1;simp at j;rw[List.getElem?_take_of_lt Yw]at b;exact b
theorem WJ(o C r c p f l q:Int)(T P L:Value)(a b:Zk)(X D:Nat)(m g:Zl)(w:Zh)(hq:Ad w w.heap.size a m)(hm:Ad w w.heap.size b g)(hf:IC m g)(zM:g.length<=D)(zR:c<=1000000000):
 Calls prog 45 #[.agg #[Zg o,Zg C,Zg r,Zg c,T,P,L],.agg (Ya p a m.length X b g.length D f l q)] w fun e w'=>Ap (AX o c p f l q m g) w w' e:=by
 have zT:=hf.q;have zS:=hf.m;obtain⟨W,Y⟩:∃W,W=(w.alloc (.cells #[Zg o,Zg C,Zg r,Zg c,T,P,L] 40)).alloc (.cells (Ya p a m.length X b g.length D f l q) 41):=⟨_,rfl⟩;have d:Below w.heap.size w W:=by rw[Y];exact(Zy).alloc Yv _
 have zH:AZ W w.heap.size o C r c T P L:=by rw[Y];exact(AZ.new w o C r c T P L 40).below (Zy)
 have zG:Cm W (w.heap.size+1) p (.slice a m.length X) (.slice b g.length D) f l q:=by rw[Y];have:=Cm.new (w.alloc (.cells #[Zg o,Zg C,Zg r,Zg c,T,P,L] 40)) p f l q (.slice a m.length X) (.slice b g.length D) 41;rw[World.size_alloc]at this;exact this
 have zK:W.heap.size=w.heap.size+2:=by rw[Y];simp
 have HW:=Yx Y;clear Y;have v:=Yx zH;have u:=Yx zG;have HQ:=Yx hq;have HM:=Yx hm;clear zH zG hq hm;by_cases p1:p<0
 .have d1:decide (p<0)=true:=by simpa using p1
  go_enter func45,ntmps45;go_wp2;go_ret;rw[<-HW.o];exact Ap.no (P:=AX o c p f l q m g) (fun h=>by rcases h.H with h|h|h<;>(have:=h.1;omega)) d
 have d1:decide (p<0)=false:=by simpa using p1
 by_cases p2:2<p
 .have d2:decide ((2:Int)<p)=true:=by simpa using p2
  go_enter func45,ntmps45;go_wp2;go_ret;rw[<-HW.o];exact Ap.no (P:=AX o c p f l q m g) (fun h=>by rcases h.H with h|h|h<;>(have:=h.1;omega)) d
 have d2:decide ((2:Int)<p)=false:=by simpa using p2
 go_enter func45,ntmps45;go_wp2_with fail;rw[<-HW.o];refine(Gz q 0 1000000000 W).mono ?_;rintro e w1 ⟨rfl,rfl⟩;obtain⟨I,E,F,J,K,M,S⟩:=u.o;by_cases h1:0<=q/\q<=1000000000
 .rw[decide_eq_true h1];by_cases h2:m.length<=23200
  .have A:decide ((23200:Int)<(m.length:Int))=false:=Yu
   by_cases h3:g.length<=600
   .have G:decide ((600:Int)<(g.length:Int))=false:=Yu
    clear HW;go_wp2
    go_loopw [5] (fun i wr=>∃k:Nat,k<=m.length/\i=Zg k/\Hid (∀j x,j<k->m[j]?=some x->(x.size:Int)=o)/\Hid (AZ wr w.heap.size o C r c T P L)/\Hid (Cm wr (w.heap.size+1) p (.slice a m.length X) (.slice b g.length D) f l q)/\Zz w wr) (fun i _=>m.length -(intOf i).toNat)
    case atStart=>exact⟨0,Nat.zero_le _,rfl,fun j x h=>by omega,v,u,d⟩
    case round=>
     clear I E F J K M S v u d zK;obtain⟨k,hk,rfl,t,v,u,d⟩:=hrel;obtain⟨I,E,F,J,K,M,S⟩:=u.o;obtain⟨N,_,_,U,_,_,_,y7⟩:=v.o;by_cases hlt:k<m.length
     .obtain⟨b',zC,ha,hb,hc⟩:=(Ad.below HQ.o d).at hlt;subst ha;have R:=Yx (Zv hlt);have Q:=hc k _ R;have O:=Zr hb d.size;clear hc;generalize m[k]=x at *
      have Z:=Ar.cell E S;have q2:=Ar.cell Q O;have q3:=Ar.cell N y7;have zI:=Ar.ne wr;by_cases h:(x.size:Int)=o
      .have hn:((x.size:Int) !=o)=false:=by simp[h]
       have HA:Hid (∀j y,j<k+1->m[j]?=some y->(y.size:Int)=o):=by
        intro j y hj H;rcases Nat.lt_or_ge j k with B|B
        .exact t j y B H
        .obtain rfl:j=k:=Yw
         rw[R.o]at H;cases H;exact h
       go_wp2;refine Au Yt Yt ?_
       repeat (go_big_quiet_step (fail))
       refine wpQuiet_nil ?_;intro n;have zB:=Yx (AZ.ah v.o n.h y7);have zA:=Yx (Cm.ah u.o n.h S);have z:=d.trans (n.h.mono d.size);clear Z q2 q3 I E F J K M N U Q;go_wp2;exact⟨⟨k+1,Yw,Yp,HA,zB,zA,z⟩,by simp[intOf];omega⟩
      .have hn:((x.size:Int) !=o)=true:=by simp[h]
       go_wp2;refine Au Yt Yt ?_
       repeat (go_big_quiet_step (fail))
       refine wpQuiet_nil ?_;intro n;have z:=d.trans (n.h.mono d.size);clear Z q2 q3 I E F J K M N U Q;go_wp2;go_ret;exact Ap.no (P:=AX o c p f l q m g) (fun B=>h (B.dx.q x (Zs R.o))) z
     .have zE:Hid (∀s∈m,(s.size:Int)=o):=by intro s hs;obtain⟨j,hj,rfl⟩:=List.getElem_of_mem hs;exact t j _ Yw (Zv hj)
      clear t;go_wp2
      go_loopw [6] (fun i wr=>∃k:Nat,k<=g.length/\i=Zg k/\Hid (∀j x,j<k->g[j]?=some x->(x.size:Int)=o/\x∉g.take j)/\Hid (AZ wr w.heap.size o C r c T P L)/\Hid (Cm wr (w.heap.size+1) p (.slice a m.length X) (.slice b g.length D) f l q)/\Zz w wr) (fun i _=>g.length -(intOf i).toNat)
      case atStart=>exact⟨0,Nat.zero_le _,rfl,fun j x h=>by omega,v,u,d⟩
      case round=>
       clear I E F J K M S N U y7 v u d;obtain⟨k,hk,rfl,t,v,u,d⟩:=hrel;obtain⟨I,E,F,J,K,M,S⟩:=u.o;obtain⟨N,_,_,U,_,_,_,y7⟩:=v.o;by_cases hlt:k<g.length
       .obtain⟨b',zC,ha,hb,hc⟩:=(Ad.below HM.o d).at hlt;subst ha;have R:=Yx (Zv hlt);have Q:=hc k _ R;have O:=Zr hb d.size;clear hc;generalize g[k]=x at *
        have Z:=Ar.cell F S;have q2:=Ar.cell Q O;have q3:=Ar.cell N y7;have zI:=Ar.ne wr;have zJ:(g.take k).length=k:=Yu
        have hH:∀n:Ar wr,Calls prog 51 #[.slice (some ⟨b',zC,none⟩) k D,.string x] n.w fun e w'=>e=.returned (.bool ((g.take k).any (fun y=>decide (y=x))))/\Below n.w.heap.size n.w w':=fun n=>by have:=Gd (some ⟨b',zC,none⟩) D (g.take k) x n.w w.heap.size (Ad.front (Ad.below HM.o (d.trans (n.h.mono d.size))) k) Yw;rw[zJ]at this;exact this.mono (by rintro e w' ⟨rfl,rfl⟩;exact⟨rfl,Below.refl _ _⟩)
        have HH:=Yx hH;clear hH;have zU:k<=D:=Yw
        by_cases h:(x.size:Int)=o
        .have hn:((x.size:Int) !=o)=false:=by simp[h]
         cases hin:(g.take k).any (fun y=>decide (y=x))with
         |false=>
          rw[hin]at HH;have V:x∉g.take k:=fun hx=>by have:(g.take k).any (fun y=>decide (y=x))=true:=List.any_eq_true.2 ⟨x,hx,Yv⟩;rw[hin]at this;cases this
          have HA:Hid (∀j y,j<k+1->g[j]?=some y->(y.size:Int)=o/\y∉g.take j):=by
           intro j y hj H;rcases Nat.lt_or_ge j k with B|B
           .exact t j y B H
           .obtain rfl:j=k:=Yw
            rw[R.o]at H;cases H;exact⟨h,V⟩
          clear V t;go_wp2;refine Au Yt Yt ?_
          repeat (go_big_quiet_step (exact Ar.calls (HH.o _)))
          refine wpQuiet_nil ?_;intro n;have zB:=Yx (AZ.ah v.o n.h y7);have zA:=Yx (Cm.ah u.o n.h S);have z:=d.trans (n.h.mono d.size);clear Z q2 q3 I E F J K M N U Q;go_wp2;exact⟨⟨k+1,Yw,Yp,HA,zB,zA,z⟩,by simp[intOf];omega⟩
         |true=>
          rw[hin]at HH;have HN:Hid (x∈g.take k):=by
           obtain⟨y,H,e⟩:=List.any_eq_true.1 hin;have:y=x:=by simpa using e
           rw[<-this];exact H
          clear t;go_wp2;refine Au Yt Yt ?_
          repeat (go_big_quiet_step (exact Ar.calls (HH.o _)))
          refine wpQuiet_nil ?_;intro n;have z:=d.trans (n.h.mono d.size);clear Z q2 q3 I E F J K M N U Q;go_wp2;go_ret;exact Ap.no (P:=AX o c p f l q m g) (fun B=>(KI.1 B.dx.nd) k x R.o HN.o) z
        .have hn:((x.size:Int) !=o)=true:=by simp[h]
         go_wp2;refine Au Yt Yt ?_
         repeat (go_big_quiet_step (fail))
         refine wpQuiet_nil ?_;intro n;have z:=d.trans (n.h.mono d.size);clear Z q2 q3 I E F J K M N U Q;go_wp2;go_ret;exact Ap.no (P:=AX o c p f l q m g) (fun B=>h (B.dx.m x (Zs R.o))) z
       .have HS:Hid (Pt o m g):=by refine⟨h2,h3,zE.o,fun s hs=> ?_,KI.2 fun j x hx=>(t j x (by have:=(Zw hx).1;omega) hx).2⟩;obtain⟨j,hj,rfl⟩:=List.getElem_of_mem hs;exact(t j _ Yw (Zv hj)).1
        clear t zE;by_cases p0:p=0
        .subst p0;by_cases e1:m.length=0
         .by_cases A:g.length=0
          .by_cases G:f=0
           .by_cases e4:l=0
            .go_wp2;go_ret;exact Ap.yes (P:=AX o c 0 f l q m g) ⟨h1.1,h1.2,HS.o,.inl ⟨rfl,List.eq_nil_of_length_eq_zero e1,List.eq_nil_of_length_eq_zero A,G,e4⟩⟩ d
            .have zP:(l==0)=false:=by simpa using e4
             go_wp2;go_ret;exact Ap.no (P:=AX o c 0 f l q m g) (fun h=>by have:=h.H;unfold EK at this;simp at this;have h9:=this.2.2.2;omega) d
           .have zF:(f==0)=false:=by simpa using G
            go_wp2;go_ret;exact Ap.no (P:=AX o c 0 f l q m g) (fun h=>by have:=h.H;unfold EK at this;simp at this;have h9:=this.2.2.1;omega) d
          .have zO:=beq_eq_false_iff_ne.2 Yw;go_wp2;go_ret;exact Ap.no (P:=AX o c 0 f l q m g) (fun h=>by have:=h.H;unfold EK at this;simp at this;exact A (by rw[this.2.1];rfl)) d
         .have zN:=beq_eq_false_iff_ne.2 Yw;go_wp2;go_ret;exact Ap.no (P:=AX o c 0 f l q m g) (fun h=>by have:=h.H;unfold EK at this;simp at this;exact e1 (by rw[this.1];rfl)) d
        .have zW:(p==0)=false:=by simpa using p0
         go_wp2_with fail;refine(Gz f 0 c wr).mono ?_;rintro e w1 ⟨rfl,rfl⟩;by_cases e1:0<=f/\f<=c
         .rw[decide_eq_true e1];have zV:=Hi Yw Yw;go_wp2_with fail;refine(Gz l 1 (f+1) _).mono ?_;rintro e w1 ⟨rfl,rfl⟩;by_cases A:1<=l/\l<=f+1
          .rw[decide_eq_true A];by_cases p3:p=2
           .subst p3;go_wp2;go_ret;exact Ap.yes (P:=AX o c 2 f l q m g) ⟨h1.1,h1.2,HS.o,.inr (.inr ⟨rfl,e1.1,e1.2,A.1,A.2⟩)⟩ d
           .have zX:(p==2)=false:=by simpa using p3
            obtain rfl:p=1:=Yw
            by_cases G:l=f+1
            .have zF:(l==f+1)=true:=by simpa using G
             go_wp2;go_ret;exact Ap.yes (P:=AX o c 1 f l q m g) ⟨h1.1,h1.2,HS.o,.inr (.inl ⟨rfl,e1.1,e1.2,G⟩)⟩ d
            .have zF:(l==f+1)=false:=by simpa using G
             go_wp2;go_ret;exact Ap.no (P:=AX o c 1 f l q m g) (fun h=>by have:=h.H;unfold EK at this;simp at this;exact G this.2.2) d
          .rw[decide_eq_false A];go_wp2;go_ret;exact Ap.no (P:=AX o c p f l q m g) (fun h=>by rcases h.H with h|h|h;exact p0 h.1;exact A (by have:=h.2.2.2;omega);exact A h.2.2.2) d
         .rw[decide_eq_false e1];go_wp2;go_ret;exact Ap.no (P:=AX o c p f l q m g) (fun h=>by rcases h.H with h|h|h;exact p0 h.1;exact e1 ⟨h.2.1,h.2.2.1⟩;exact e1 ⟨h.2.1,h.2.2.1⟩) d
   .have G:decide ((600:Int)<(g.length:Int))=true:=Yu
    go_wp2;go_ret;exact Ap.no (P:=AX o c p f l q m g) (fun h=>h3 h.dx.nm) d
  .have A:decide ((23200:Int)<(m.length:Int))=true:=Yu
   go_wp2;go_ret;exact Ap.no (P:=AX o c p f l q m g) (fun h=>h2 h.dx.nq) d
 .rw[decide_eq_false h1];go_wp2;go_ret;exact Ap.no (P:=AX o c p f l q m g) (fun h=>h1 ⟨h.jf,h.iz⟩) d
end
structure UY (w wx:Zh) (v:Vd) (a:Va) (b:Nat) (o:An) (ta pa la:Zk) (tc pc lc:Nat):Prop where
 box:Aa wx b [Zg o.code,Zg o.wd,Zg o.F,Zg o.G,Zg o.E,.slice ta o.A.length tc,.slice pa o.ps.length pc,.slice la o.ls.length lc,.string o.sm,Zg o.le,.string o.a,.string o.b]
 rows:BI wx wx.heap.size ta pa la o.A o.ps o.ls
 rto:Ps v.wd (v.ss++v.C) o
 ir:Aa wx w.heap.size [Zg v.wd,Zg v.U,.slice a.R v.ss.length a.Z,.slice a.N v.C.length a.O,Zg v.T,Zg v.F,Zg v.G,Zg v.E,.slice a.x v.A.length a.kc,.slice a.Q v.ps.length a.W,.slice a.P v.ls.length a.X,Zg v.H,.slice a.i v.D.length a.qc,.slice a.g v.ms.length a.y,Zg v.K,Zg v.J,Zg v.ro]
 br:Below w.heap.size w wx
theorem UY.fin{w c d:Zh}{v:Vd}{a:Va}{b:Nat}{o:An}{i h g:Zk}{n m l:Nat}(p:Ps v.wd (v.ss++v.C) o)(q:∀X,Tn [b] d X->BI X X.heap.size i h g o.A o.ps o.ls)(f:Zz w c)(e:Zz c d)(s:Aa c w.heap.size (Xy v a))(u:w.heap.size<c.heap.size)(t:Aa d b z12)(y:c.heap.size<=b):
 UY w ((((((((((((d.setCell (Ze b 0) (Zg o.code)).setCell (Ze b 1) (Zg o.wd)).setCell (Ze b 2) (Zg o.F)).setCell (Ze b 3) (Zg o.G)).setCell (Ze b 4) (Zg o.E)).setCell (Ze b 5) (.slice i o.A.length n)).setCell (Ze b 6) (.slice h o.ps.length m)).setCell (Ze b 7) (.slice g o.ls.length l)).setCell (Ze b 8) (.string o.sm)).setCell (Ze b 9) (Zg o.le)).setCell (Ze b 10) (.string o.a)).setCell (Ze b 11) (.string o.b)) v a b o i h g n m l:=by
 have k:=Bd d b (Zg o.code) (Zg o.wd) (Zg o.F) (Zg o.G) (Zg o.E) (.slice i o.A.length n) (.slice h o.ps.length m) (.slice g o.ls.length l) (.string o.sm) (Zg o.le) (.string o.a) (.string o.b);have x:=e.size;refine⟨WW t _ _ _ _ _ _ _ _ _ _ _ _,?_,p,?_,?_⟩
 .exact q _ k
 .exact Aa.same (Aa.below s e) (k.block _ Yw Yu)
 .exact(f.trans (e.mono f.size)).trans (k.below (by have:=f.size;omega) (fun j r=>by simp at r;have:=f.size;omega))
theorem Me(v:Vd)(a:Va)(w:Zh)(hr:Ca w w.heap.size a v)(hc:Aav a v)(A:Dl v):
 Calls prog 16 #[.agg (Xz v a)] w fun e w'=>Ap (FY v) w w' e:=by
 obtain⟨W,hW⟩:∃W,W=w.alloc (.cells (Xz v a) 43):=⟨_,rfl⟩;have N:=(AA hW).1;have zW:=(AA hW).2.1;have xW:=(AA hW).2.2;have HX:Hid (Aa W _ _):=(AA hW).2.2;have HR:=Yx hr;have HW:=Yx hW;have V:=Yx (Lp v.wd W);have zF:=Yx (Gz v.U 0 1000000 W);have zK:=Yx (NQ a.R a.N a.Z a.O v.ss v.C W w.heap.size N.size (hr.s.below N) (hr.t.below N) A.s A.t A.ss A.C)
 obtain⟨O,Q,R,S,y4,y5,y6,y7,y8,y9,F,G,H,I,J,K,M⟩:=Fh xW;clear hW xW hr;by_cases hwd:1<=v.wd/\v.wd<=8
 .rw[decide_eq_true hwd]at V;by_cases hlim:0<=v.U/\v.U<=1000000
  .rw[decide_eq_true hlim]at zF;cases hlog:Eo v.ss v.C with
   |true=>
    rw[hlog]at zK;have yJ:=Hz hlog;obtain⟨xs,zN⟩:∃xs,xs=v.ss++v.C:=⟨_,rfl⟩;have HA:Hid (∀X,Zz W X->Calls prog 43 #[.agg #[.slice a.R v.ss.length a.Z,.slice a.N v.C.length a.O]] X fun e w'=>∃g cap,e=.returned (Za g xs.length cap)/\w'.ownsRow X.heap.size 9 1 (Za g xs.length cap) xs.length (xs.map Value.string)/\Zz X w'):=fun X hX=>by have hb:=N.trans (hX.mono N.size);rw[zN];exact UX a.R a.N a.Z a.O v.ss v.C X (HR.o.s.j hb) (HR.o.t.j hb) hc.s hc.t A.s A.t
    have HS:Hid (∀(X:Zh) (g cap:Nat),Ad X X.heap.size (some ⟨g,0,none⟩) xs->Calls prog 42 #[Zg v.wd,Za g xs.length cap] X fun e w'=>∃(o:An) (m:Zk) (p:Nat) (j:Zk) (l:Nat) (f:Zk) (i:Nat) (rs:Zj),e=.returned (.agg #[Zg o.code,Zg o.wd,Zg o.F,Zg o.G,Zg o.E,.slice m o.A.length p,.slice j o.ps.length l,.slice f o.ls.length i,.string o.sm,Zg o.le,.string o.a,.string o.b])/\Ps v.wd xs o/\Bf w' X.heap.size (.slice m o.A.length p) (.slice j o.ps.length l) (.slice f o.ls.length i) rs o.A o.ps o.ls/\Zz X w'):=fun X g cap h=>by
     refine(QH v.wd _ _ xs X h (by rw[zN];omega) (fun s hs=>by rw[zN]at hs;rcases List.mem_append.1 hs with h|h;exact A.ss s h;exact A.C s h)).mono ?_;rintro e w' ⟨o,T,P,L,rs,q,rfl,hS,hb⟩;obtain⟨m,p,j,l,f,i,rfl,rfl,rfl,_⟩:=hS.rows;exact⟨o,m,p,j,l,f,i,rs,rfl,q,hS,hb⟩
    have zX:=Yx zN;clear zN;have HM:=Yx hc.m;clear hc;go_enter func16,ntmps16;go_wp2_with fail;rw[<-HW.o];refine Calls.mono V.o ?_;rintro e w1 ⟨rfl,c⟩;replace c:=c.symm;subst c;go_wp2_with fail;refine Calls.mono zF.o ?_;rintro e w1 ⟨rfl,c⟩;replace c:=c.symm;subst c;go_wp2_with fail;refine Calls.mono zK.o ?_;rintro e d ⟨rfl,Z⟩;have x2:=Aa.below HX.o Z
    have z2:w.heap.size+1<=d.heap.size:=by have:=Z.size;omega
    have yC:=Yx Z;have zP:=Yx x2;have U:=Yx (N.trans (Z.mono N.size));clear O Q R S y4 y5 y6 y7 y8 y9 F G H I J K M V zF zK Z HW;obtain⟨O,Q,R,S,_⟩:=Fh x2;clear x2;go_upto_region 3 with fail;generalize (.agg (Xz v a):Value)=dv0;go_cut [3] (fun u wx=>∃(b:Nat) (o:An) (m j f:Zk) (p l i:Nat),u=Yz b/\Hid (UY w wx v a b o m j f p l i))
    case first=>
     have Y:Hid (∀X,Zz d X->X.cell? (Ze (w.heap.size) 0)=some (Zg v.wd)/\X.cell? (Ze (w.heap.size) 2)=some (.slice a.R v.ss.length a.Z)/\X.cell? (Ze (w.heap.size) 3)=some (.slice a.N v.C.length a.O)):=fun X hX=>by obtain⟨u0,u1,u2,u3,_⟩:=Fh (Aa.below zP.o hX);exact⟨u0,u2,u3⟩
     have HL:Hid (∀X,Zz d X->Zz W X):=fun X hX=>yC.o.trans (hX.mono yC.o.size);have D0:Below d.heap.size d d.drew:=(Below.refl _ _).drew;have D1:∀o,Zz d (d.alloc o).drew:=fun o=>(Zy).drew;clear O Q R S
     go_region_held3 (fun X=>X.cell? (Ze (w.heap.size) 0)=some (Zg v.wd)/\X.cell? (Ze (w.heap.size) 2)=some (.slice a.R v.ss.length a.Z)/\X.cell? (Ze (w.heap.size) 3)=some (.slice a.N v.C.length a.O))
      (first
        |with_reducible exact Y.o _ D0
        |with_reducible exact Y.o _ (D1 _)
        |with_reducible exact Y.o _ y
        |with_reducible exact Y.o _ (y.alloc y.size _)
        |with_reducible exact Y.o _ C
        |with_reducible exact Y.o _ (C.alloc C.size _)
        |with_reducible exact Y.o _ (C.trans ((Bd w4 _ _ _ _ _ _ _ _ _ _ _ _ _).below C.size (by intro x hx;simp at hx;omega))))
      (first
        |(go_at_call 43;guard_target=~Calls prog 43 _ (World.drew (World.alloc d _)) _;refine Calls.mono (HA.o (d.alloc (.cells Yg 88)).drew (HL.o _ (D1 _))) ?_;rintro e t ⟨g,cap,rfl,zM,zR⟩;have y:Below d.heap.size d t:=(D1 _).trans (zR.mono Yv);have zB:=Ad.own zM;clear zM;have zA:Aa t d.heap.size z12:=Aa.below (v:=Zf) (w:=(d.alloc (.cells Yg 88))) (Aa.new d z12 88) (Cp zR))
        |(go_at_call 43;guard_target=~Calls prog 43 _ (World.drew d) _;refine Calls.mono (HA.o d.drew (HL.o _ D0)) ?_;rintro e t ⟨g,cap,rfl,zM,zR⟩;have y:Below d.heap.size d t:=D0.trans zR;have zB:=Ad.own zM;clear zM;have nA:=y)
        |(go_at_call 42;have zS:=zA;refine Calls.mono (HS.o t g cap zB) ?_;rintro e w4 ⟨o,m,p,j,l,f,i,rs,rfl,q,E,zC⟩;have D:=Yx (Zn q E);clear q E zB;have C:Below d.heap.size d w4:=y.trans (zC.mono y.size);have zZ:Aa w4 d.heap.size z12:=Aa.below (v:=Zf) zA zC;have yB:d.heap.size<t.heap.size:=Aa.lt (v:=Zf) zA;have zI:d.heap.size<=d.heap.size:=Zx;obtain⟨⟨t0,q0⟩,⟨t1,q1⟩,⟨t2,q2⟩,⟨t3,q3⟩,⟨t4,q4⟩,⟨t5,q5⟩,⟨t6,q6⟩,⟨t7,q7⟩,⟨t8,q8⟩,⟨t9,q9⟩,⟨t10,q10⟩,t11,q11⟩:=AY zZ)
        |(go_at_call 42;guard_target=~Calls prog 42 _ (World.alloc t _) _;refine Calls.mono (HS.o (t.alloc (.cells Yg 88)) g cap (zB.j (Zy))) ?_;rintro e w4 ⟨o,m,p,j,l,f,i,rs,rfl,q,E,zC⟩;have D:=Yx (Zn q E);clear q E zB;have C:Below d.heap.size d w4:=(y.alloc y.size _).trans (zC.mono (by have:=y.size;simp;omega));have yA:Aa w4 t.heap.size z12:=Aa.below (v:=Zf) (w:=(t.alloc (.cells Yg 88))) (Aa.new t z12 88) zC;have zI:d.heap.size<=t.heap.size:=y.size;obtain⟨⟨t0,q0⟩,⟨t1,q1⟩,⟨t2,q2⟩,⟨t3,q3⟩,⟨t4,q4⟩,⟨t5,q5⟩,⟨t6,q6⟩,⟨t7,q7⟩,⟨t8,q8⟩,⟨t9,q9⟩,⟨t10,q10⟩,t11,q11⟩:=AY yA)
        |(go_at_call 42;have zS:=nA;refine Calls.mono (HS.o t g cap zB) ?_;rintro e w4 ⟨o,m,p,j,l,f,i,rs,rfl,q,E,zC⟩;have D:=Yx (Zn q E);clear q E zB;have C:Below d.heap.size d w4:=y.trans (zC.mono y.size);have nD:=nA))
     all_goals
      go_wp2_with fail;go_meet
     all_goals first
      |(have zS:=zZ
        exact⟨d.heap.size,o,m,j,f,p,l,i,rfl,UY.fin (zX.o▸D.o.1) (fun X ht=>Bf.get (D.o.2.Y ht (by simp;exact yB))) U.o C zP.o Yw zZ zI⟩)
      |(have zS:=yA
        exact⟨t.heap.size,o,m,j,f,p,l,i,rfl,UY.fin (zX.o▸D.o.1) (fun X ht=>Bf.get (D.o.2.Y ht Yv)) U.o C zP.o Yw yA zI⟩)
      |(have zS:=nD
        exact⟨w4.heap.size,o,m,j,f,p,l,i,rfl,⟨Aa.new w4 [Zg o.code,Zg o.wd,Zg o.F,Zg o.G,Zg o.E,.slice m o.A.length p,.slice j o.ps.length l,.slice f o.ls.length i,.string o.sm,Zg o.le,.string o.a,.string o.b] 88,(Bf.get D.o.2).j (Zy),zX.o▸D.o.1,Aa.below (Aa.below zP.o C) (Zy),(U.o.trans (C.mono U.o.size)).alloc (Zm U.o.size C.size) _⟩⟩)
    case rest=>
     clear O Q R S HA HS;obtain⟨b,o,m,j,f,p,l,i,rfl,HV⟩:=hcut;rcases HV.o.rto with⟨yK,_⟩|⟨_,⟨n,zG,ho⟩|⟨r,zG,ho⟩⟩
     .exact absurd ⟨hwd,yJ⟩ yK
     .have zT:o.code=7:=by rw[ho]
      obtain⟨m0,_⟩:=HV.o.box 0 _ rfl;rw[zT]at m0;have zE:=Yx HV.o.br;have zU:Hid (¬FY v):=fun⟨r,h⟩=>DA.not hwd.1 hwd.2 zG h.run;clear ho zG HV;go_wp2;go_ret;exact Ap.no zU.o zE.o
     .subst ho;have zH:=zG.ok (GW hwd.1 hwd.2);obtain⟨⟨m0,_⟩,⟨m1,_⟩,⟨m2,_⟩,⟨m3,_⟩,⟨m4,_⟩,⟨m5,_⟩,⟨m6,_⟩,m7,_⟩:=KF HV.o.box;obtain⟨O,Q,R,S,y4,y5,y6,y7,y8,y9,F,G,H,I,J,K,M⟩:=Fh HV.o.ir;have zE:=Yx HV.o.br;have yG:=HR.o.st.ah zE.o
      have yE:=Yx (Md v.wd r.F r.G r.E v.T v.F v.G v.E m j f a.x a.Q a.P p l i a.kc a.W a.X r.A v.A r.ps v.ps r.ls v.ls wc HV.o.rows (yG.mono zE.o.size) ⟨by have:=zH.bx.len;omega,by have:=zH.np;omega,by have:=zH.nl;omega⟩ ⟨A.st.k,A.st.p,A.st.l⟩ (fun k hk=>by have:=zH.fe k hk;omega) A.st.r);have zV:=Yx HV.o.ir;have zO:=Yx zG;have yI:=Yx zH.ai;clear yG zH HV;go_wp2_with fail
      refine Calls.mono yE.o ?_;rintro e w5 ⟨bb,rfl,z,zY⟩;have zJ:=Yx (zE.o.trans (zY.mono zE.o.size));have x5:=Aa.below zV.o zY;clear m0 m1 m2 m3 m4 m5 m6 m7 O Q R S y4 y5 y6 y7 y8 y9 F G H I J K M yE zY zG;cases bb with
      |false=>
       have zU:Hid (¬FY v):=fun⟨r',h⟩=>by obtain rfl:=zO.o.cj h.run;have:=z.2 h.same;cases this
       clear z x5 zV;go_wp2;go_ret;exact Ap.no zU.o zJ.o
      |true=>
       have B:=Yx (z.1 rfl);obtain⟨O,Q,R,S,y4,y5,y6,y7,y8,y9,F,G,H,I,J,K,M⟩:=Fh x5;have yD:=Yx (WJ v.T v.F v.G v.E v.H v.K v.J v.ro (.slice a.x v.A.length a.kc) (.slice a.Q v.ps.length a.W) (.slice a.P v.ls.length a.X) a.i a.g a.qc a.y v.D v.ms w5 (HR.o.q.j zJ.o) (HR.o.m.j zJ.o) A.r HM.o (by have h1:=B.o.1.2.2.2;have h2:=yI.o;omega));clear z x5 zV;go_wp2_with fail;refine Calls.mono yD.o ?_
       rintro e w6 ⟨bb,rfl,z,yF⟩;have yH:=Yx (zJ.o.trans (yF.mono zJ.o.size));have HN:Hid (bb=true↔FY v):=by have h1:=B.o.1.1;rw[<-h1]at z;refine⟨fun h=>⟨r,hwd,hlim,hlog,zO.o,B.o,z.1 h⟩,fun⟨r',h⟩=>z.2 h.round⟩
       clear O Q R S y4 y5 y6 y7 y8 y9 F G H I J K M yD z yF;go_wp2;go_ret;exact⟨bb,rfl,HN.o,yH.o⟩
   |false=>
    rw[hlog]at zK;go_enter func16,ntmps16;go_wp2_with fail;rw[<-HW.o];refine Calls.mono V.o ?_;rintro e w1 ⟨rfl,c⟩;replace c:=c.symm;subst c;go_wp2_with fail;refine Calls.mono zF.o ?_;rintro e w1 ⟨rfl,c⟩;replace c:=c.symm;subst c;go_wp2_with fail;refine Calls.mono zK.o ?_;rintro e d ⟨rfl,Z⟩;have U:=Yx (N.trans (Z.mono N.size));clear O Q R S y4 y5 y6 y7 y8 y9 F G H I J K M;go_wp2;go_ret
    exact Ap.no (fun⟨r,h⟩=>by have:=h.log;rw[hlog]at this;cases this) U.o
  .rw[decide_eq_false hlim]at zF;go_enter func16,ntmps16;go_wp2_with fail;rw[<-HW.o];refine Calls.mono V.o ?_;rintro e w1 ⟨rfl,c⟩;replace c:=c.symm;subst c;go_wp2_with fail;refine Calls.mono zF.o ?_;rintro e w1 ⟨rfl,c⟩;replace c:=c.symm;subst c;clear O Q R S y4 y5 y6 y7 y8 y9 F G H I J K M;go_wp2;go_ret;exact Ap.no (fun⟨r,h⟩=>hlim h.U) N
 .rw[decide_eq_false hwd]at V;go_enter func16,ntmps16;go_wp2_with fail;rw[<-HW.o];refine Calls.mono V.o ?_;rintro e w1 ⟨rfl,c⟩;replace c:=c.symm;subst c;clear O Q R S y4 y5 y6 y7 y8 y9 F G H I J K M;go_wp2;go_ret;exact Ap.no (fun⟨r,h⟩=>hwd h.wd) N
theorem Is{α:Type}:(∀(l:List α) (i:Nat) (a:α),l.toArray.setIfInBounds i a=(l.set i a).toArray)/\(∀(a b:α) (l:List α),(b::l).set 0 a=a::l)/\∀(a b:α) (l:List α) (n:Nat),(b::l).set (n+1) a=b::l.set n a:=
 ⟨fun _ _ _=>Zq _ _ _,fun _ _ _=>rfl,fun _ _ _ _=>rfl⟩
end Go.Proofs.YtcankpdbabaacaaGreatDoor
