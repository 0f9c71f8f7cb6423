import Derived.Test.YtmjlkgpekcnacaaGreatX14
set_option maxRecDepth 100000
set_option maxHeartbeats 16000000
namespace Go.Proofs.YtmjlkgpekcnacaaGreat
open Go.ChangeShapes Go.WideShapes Go.ChangeAt Go.RowKit _root_.Go.Proofs.Tryz
variable{a:Zk}{w c X:Zh}{d:Zl}{v:Vd}{g lo base N:Nat}{e:Zj}
section
attribute [local go_sem↓] Go.wp_at_zero Go.wp_at_succ
theorem Ln(V now j d J s c b:Int)(a p l a' p' l':Zk)(ac pc lc zC zH zG:Nat)(z o:List Kd)(C r:List Pd)(B q:List Ld)(w:Zh)(H:AZ w w.heap.size a p l z C B)(G:AZ w w.heap.size a' p' l' o r q)(hl:z.length<=100000/\C.length<=100000/\B.length<=100000)(yI:o.length<=1048576/\r.length<=1048576/\q.length<=1048576)(P:∀k∈z,k.B.length<=100000)(Q:∀k∈o,k.B.length<=1048576):
 Calls prog 132 #[.agg (Yj V now j d a z.length ac p C.length pc l B.length lc),.agg (Yj J s c b a' o.length zC p' r.length zH l' q.length zG)] w fun e w'=>Aq ((V=J/\now=s/\j=c/\d=b)/\z=o/\C=r/\B=q) w w' e:=by
 obtain⟨W,hW⟩:∃W,W=(w.alloc (.cells (Yj V now j d a z.length ac p C.length pc l B.length lc) 27)).alloc (.cells (Yj J s c b a' o.length zC p' r.length zH l' q.length zG) 27):=⟨_,rfl⟩;have R:=(Bm hW).1;have t:=(Bm hW).2.2.1;have u:Aa W (w.heap.size+1) (Yh J s c b a' o.length zC p' r.length zH l' q.length zG):=by have P:=Aa.new (w.alloc (.cells (Yj V now j d a z.length ac p C.length pc l B.length lc) 27)) (Yh J s c b a' o.length zC p' r.length zH l' q.length zG) 27;rw[World.size_alloc]at P;rw[hW];exact P
 have HX:Hid (∀X,Zz W X->Aa X w.heap.size (Yh V now j d a z.length ac p C.length pc l B.length lc)/\Aa X (w.heap.size+1) (Yh J s c b a' o.length zC p' r.length zH l' q.length zG)/\AZ X w.heap.size a p l z C B/\AZ X w.heap.size a' p' l' o r q/\Zz w X):=fun X hX=>by have A:=R.trans (hX.mono R.size);exact⟨Aa.below t hX,Aa.below u hX,H.af A,G.af A,A⟩
 have zW:=(Bm hW).2.1;obtain⟨zV,_⟩:=t 0 _ rfl;obtain⟨yC,_⟩:=u 0 _ rfl;obtain⟨zX,_⟩:=t 1 _ rfl;obtain⟨yD,_⟩:=u 1 _ rfl;obtain⟨zY,_⟩:=t 2 _ rfl;obtain⟨yE,_⟩:=u 2 _ rfl;obtain⟨zZ,_⟩:=t 3 _ rfl;obtain⟨yF,_⟩:=u 3 _ rfl;obtain⟨K,_⟩:=t 4 _ rfl;obtain⟨L,_⟩:=u 4 _ rfl;obtain⟨yA,_⟩:=t 5 _ rfl;obtain⟨yG,_⟩:=u 5 _ rfl;obtain⟨yB,_⟩:=t 6 _ rfl;obtain⟨yH,_⟩:=u 6 _ rfl;have D:=Yw hW;clear hW H G t u
 by_cases e0:V=J
 .have b0:(V !=J)=false:=by simp[e0]
  have E0:=Yw e0;clear e0;by_cases e1:now=s
  .have b1:(now !=s)=false:=by simp[e1]
   have E1:=Yw e1;clear e1;by_cases e2:j=c
   .have b2:(j !=c)=false:=by simp[e2]
    have E2:=Yw e2;clear e2;by_cases e3:d=b
    .have b3:(d !=b)=false:=by simp[e3]
     have E3:=Yw e3;clear e3;by_cases e4:z.length=o.length
     .have b4:((z.length:Int) !=(o.length:Int))=false:=by simp[e4]
      have E4:=Yw e4;clear e4;by_cases e5:C.length=r.length
      .have b5:((C.length:Int) !=(r.length:Int))=false:=by simp[e5]
       have E5:=Yw e5;clear e5;by_cases e6:B.length=q.length
       .have b6:((B.length:Int) !=(q.length:Int))=false:=by simp[e6]
        have E6:=Yw e6;clear e6;go_enter func132,ntmps132;go_upto_region 1 with fail;rw[<-D.o];clear D;go_wp2;clear b0 b1 b2 b3 b4 b5 b6
        go_loopw [5] (fun i wr=>∃k:Nat,k<=z.length/\i=Zg k/\Hid (z.take k=o.take k/\Zz W wr)) (fun i _=>z.length -(intOf i).toNat)
        case atStart=>exact⟨0,Nat.zero_le _,rfl,⟨Yu,Below.refl _ _⟩⟩
        case round=>
         clear zV yC zX yD zY yE zZ yF K L yA yG yB yH;obtain⟨k,hk,rfl,v⟩:=hrel;obtain⟨t,u,H,G,g⟩:=HX.o wr v.o.2;have zR:=v.o.2.size;obtain⟨K,_⟩:=t 4 _ rfl;obtain⟨L,_⟩:=u 4 _ rfl;by_cases hlt:k<z.length
         .have f:k<o.length:=by have:=E4.o;omega
          obtain⟨rb,ro,ha,zF,O⟩:=H.k.at hlt;obtain⟨qb,qo,A,zE,N⟩:=G.k.at f;subst ha A;obtain⟨c0,c1,c2,ra,rc,c3,zP⟩:=O k _ (Zv hlt);obtain⟨d0,d1,d2,sa,sc,d3,zO⟩:=N k _ (Zv f);have T:=Zr zF g.size;have S:=Zr zE g.size;have zA:=Yw (Zu hlt);have zB:=Yw (Zu f);have HN:Hid (∀x y,z[k]?=some x->o[k]?=some y->x≠y->z≠o):=fun x y P Q U e=>by subst e;rw[P]at Q;exact U (Option.some.inj Q)
          have E:=Yw (Zv hlt);have F:=Yw (Zv f);have zN:(k:Int)<o.length:=Yv
          have m1:=P _ (List.getElem_mem hlt);have m2:=Q _ (List.getElem_mem f);clear O N;generalize z[k]=x at *
          generalize o[k]=y at *
          have HB:=Yw v.o.2;have HC:Hid (∀n:Ag wr,Calls prog 139 #[.agg #[.string x.E,.slice ra x.B.length rc],.agg #[.string y.E,.slice sa y.B.length sc]] n.w fun e w'=>e=.returned (.bool (decide (x.E=y.E/\x.B=y.B)))/\Below n.w.heap.size n.w w'):=fun n=>by
           have zM:=g.trans (n.h.mono g.size);refine(Lm x.E y.E ra sa rc sc x.B y.B n.w ((zP.below (n.h.mono g.size)).mono zM.size) ((zO.below (n.h.mono g.size)).mono zM.size) m1 m2).mono ?_;rintro e w' ⟨bb,rfl,zK,zJ⟩;refine⟨?_,zJ⟩;by_cases hP:x.E=y.E/\x.B=y.B
           .rw[zK.2 hP,decide_eq_true hP]
           .cases bb with
            |true=>exact absurd (zK.1 rfl) hP
            |false=>rw[decide_eq_false hP]
          have q1:=Ag.cell K Yv;have q2:=Ag.cell L Yv;have r0:=Ag.cell c0 T;have s0:=Ag.cell d0 S;have r1:=Ag.cell c1 T;have s1:=Ag.cell d1 S;have r2:=Ag.cell c2 T;have s2:=Ag.cell d2 S;have r3:=Ag.cell c3 T;have s3:=Ag.cell d3 S;have U:=Ag.ne wr;have HE:Hid (∀n:Ag wr,Zz W n.w):=fun n=>HB.o.trans (n.h.mono HB.o.size);clear t u H G zP zO g;by_cases hs:x.sum=y.sum
          .have zT:(x.sum.toList !=y.sum.toList)=false:=by rw[hs];simp
           have zU:(x.sum.toList==y.sum.toList)=true:=by rw[hs];simp
           by_cases A:x.born=y.born
           .have zJ:(x.born !=y.born)=false:=by simp[A]
            have zS:(x.born==y.born)=true:=by simp[A]
            by_cases hP:x.E=y.E/\x.B=y.B
            .rw[decide_eq_true hP]at HC;have M:Hid (x=y):=by obtain⟨e1,e2⟩:=hP;show x=y;cases x;cases y;simp_all
             clear hP hs A;go_wp2;refine Aj Ys Ys ?_
             repeat (go_big_quiet_step (exact Ag.calls (HC.o _)))
             refine wpQuiet_nil ?_;intro n;clear q1 q2 r0 r1 r2 r3 s0 s1 s2 s3 K L c0 c1 c2 c3 d0 d1 d2 d3;go_wp2;exact⟨⟨k+1,Yv,Yo,⟨by rw[zA.o,zB.o,v.o.1,M.o],HE.o n⟩⟩,by simp[intOf];omega⟩
            .rw[decide_eq_false hP]at HC;have Z:=Yw hP;clear hP hs A;go_wp2;refine Aj Ys Ys ?_
             repeat (go_big_quiet_step (exact Ag.calls (HC.o _)))
             refine wpQuiet_nil ?_;intro n;have Y:=Yw ((HX.o _ (HE.o n)).2.2.2.2);clear q1 q2 r0 r1 r2 r3 s0 s1 s2 s3 K L c0 c1 c2 c3 d0 d1 d2 d3;go_wp2;go_ret;exact Aq.no (fun h=>HN.o x y E.o F.o (fun e=>Z.o (by rw[e];exact⟨rfl,rfl⟩)) h.2.1) Y.o
           .have zJ:(x.born !=y.born)=true:=by simp[A]
            have zS:(x.born==y.born)=false:=by simp[A]
            have Z:=Yw A;clear A hs;go_wp2;refine Aj Ys Ys ?_
            repeat (go_big_quiet_step (exact Ag.calls (HC.o _)))
            refine wpQuiet_nil ?_;intro n;have Y:=Yw ((HX.o _ (HE.o n)).2.2.2.2);clear q1 q2 r0 r1 r2 r3 s0 s1 s2 s3 K L c0 c1 c2 c3 d0 d1 d2 d3;go_wp2;go_ret;exact Aq.no (fun h=>HN.o x y E.o F.o (fun e=>Z.o (by rw[e])) h.2.1) Y.o
          .have zT:(x.sum.toList !=y.sum.toList)=true:=by simp[bne,By hs]
           have zU:=By hs;have Z:=Yw hs;clear hs;go_wp2;refine Aj Ys Ys ?_
           repeat (go_big_quiet_step (exact Ag.calls (HC.o _)))
           refine wpQuiet_nil ?_;intro n;have Y:=Yw ((HX.o _ (HE.o n)).2.2.2.2);clear q1 q2 r0 r1 r2 r3 s0 s1 s2 s3 K L c0 c1 c2 c3 d0 d1 d2 d3;go_wp2;go_ret;exact Aq.no (fun h=>HN.o x y E.o F.o (fun e=>Z.o (by rw[e])) h.2.1) Y.o
         .obtain rfl:k=z.length:=Yv
          have m:=v.o.1;rw[Zt (Zx),Zt (by have:=E4.o;omega)]at m;have HK:=Yw m;have zI:=Yw v.o.2;clear m t u H G g;go_wp2
          go_loopw [6] (fun i wr=>∃k:Nat,k<=C.length/\i=Zg k/\Hid (C.take k=r.take k/\Zz W wr)) (fun i _=>C.length -(intOf i).toNat)
          case atStart=>exact⟨0,Nat.zero_le _,rfl,⟨Yu,zI.o⟩⟩
          case round=>
           obtain⟨k,hk,rfl,v⟩:=hrel;obtain⟨t,u,H,G,g⟩:=HX.o wr v.o.2;have zR:=v.o.2.size;obtain⟨K,_⟩:=t 5 _ rfl;obtain⟨L,_⟩:=u 5 _ rfl;by_cases hlt:k<C.length
           .have f:k<r.length:=by have:=E5.o;omega
            obtain⟨rb,ro,ha,zF,O⟩:=H.p.at hlt;obtain⟨qb,qo,A,zE,N⟩:=G.p.at f;subst ha A;obtain⟨c0,c1⟩:=O k _ (Zv hlt);obtain⟨d0,d1⟩:=N k _ (Zv f);have T:=Zr zF g.size;have S:=Zr zE g.size;have zA:=Yw (Zu hlt);have zB:=Yw (Zu f);have HN:Hid (∀x y,C[k]?=some x->r[k]?=some y->x≠y->C≠r):=fun x y P Q U e=>by subst e;rw[P]at Q;exact U (Option.some.inj Q)
            have E:=Yw (Zv hlt);have F:=Yw (Zv f);have zN:(k:Int)<r.length:=Yv
            clear O N;generalize C[k]=x at *
            generalize r[k]=y at *
            have HB:=Yw v.o.2;have I:=Yw g;clear t u H G g;by_cases hxy:x=y
            .subst hxy;go_wp2
             go_region
             all_goals go_wp2
             all_goals exact⟨⟨k+1,Yv,Yo,⟨by rw[zA.o,zB.o,v.o.1],HB.o.drew⟩⟩,by simp[intOf];omega⟩
            .have M:=Yw hxy;by_cases n0:x.name=y.name
             .have k0:x.name.toList=y.name.toList:=by rw[n0]
              have n1:¬x.sum=y.sum:=fun e=>hxy (by
               cases x;cases y;simp_all)
              have k1:¬x.sum.toList=y.sum.toList:=fun e=>n1 (Hl e);clear hxy n0 n1;go_wp2
              go_region
              all_goals go_wp2
              all_goals go_ret
              all_goals exact Aq.no (fun h=>HN.o x y E.o F.o M.o h.2.2.1) I.o.drew
             .have k0:¬x.name.toList=y.name.toList:=fun e=>n0 (Hl e);clear n0 hxy;go_wp2
              go_region
              all_goals go_wp2
              all_goals go_ret
              all_goals exact Aq.no (fun h=>HN.o x y E.o F.o M.o h.2.2.1) I.o.drew
           .obtain rfl:k=C.length:=Yv
            have m:=v.o.1;rw[Zt (Zx),Zt (by have:=E5.o;omega)]at m;have HP:=Yw m;have zI:=Yw v.o.2;have I:=Yw g;clear m t u H G g;go_wp2
            go_loopw [7] (fun i wr=>∃k:Nat,k<=B.length/\i=Zg k/\Hid (B.take k=q.take k/\Zz W wr)) (fun i _=>B.length -(intOf i).toNat)
            case atStart=>exact⟨0,Nat.zero_le _,rfl,⟨Yu,zI.o⟩⟩
            case round=>
             obtain⟨k,hk,rfl,v⟩:=hrel;obtain⟨t,u,H,G,g⟩:=HX.o wr v.o.2;have zR:=v.o.2.size;obtain⟨K,_⟩:=t 6 _ rfl;obtain⟨L,_⟩:=u 6 _ rfl;by_cases hlt:k<B.length
             .have f:k<q.length:=by have:=E6.o;omega
              obtain⟨rb,ro,ha,zF,O⟩:=H.l.at hlt;obtain⟨qb,qo,A,zE,N⟩:=G.l.at f;subst ha A;obtain⟨c0,c1,c2⟩:=O k _ (Zv hlt);obtain⟨d0,d1,d2⟩:=N k _ (Zv f);have T:=Zr zF g.size;have S:=Zr zE g.size;have zA:=Yw (Zu hlt);have zB:=Yw (Zu f);have HN:Hid (∀x y,B[k]?=some x->q[k]?=some y->x≠y->B≠q):=fun x y P Q U e=>by subst e;rw[P]at Q;exact U (Option.some.inj Q)
              have E:=Yw (Zv hlt);have F:=Yw (Zv f);have zN:(k:Int)<q.length:=Yv
              clear O N;generalize B[k]=x at *
              generalize q[k]=y at *
              have HB:=Yw v.o.2;have I:=Yw g;clear t u H G g;by_cases hxy:x=y
              .subst hxy;go_wp2
               go_region
               all_goals go_wp2
               all_goals exact⟨⟨k+1,Yv,Yo,⟨by rw[zA.o,zB.o,v.o.1],HB.o.drew⟩⟩,by simp[intOf];omega⟩
              .have M:=Yw hxy;by_cases n0:x.H=y.H
               .have k0:=n0;by_cases n1:x.sum=y.sum
                .have k1:x.sum.toList=y.sum.toList:=by rw[n1]
                 have n2:¬x.V=y.V:=fun e=>hxy (by
                  cases x;cases y;simp_all)
                 clear hxy n1;go_wp2
                 go_region
                 all_goals go_wp2
                 all_goals go_ret
                 all_goals exact Aq.no (fun h=>HN.o x y E.o F.o M.o h.2.2.2) I.o.drew
                .have k1:¬x.sum.toList=y.sum.toList:=fun e=>n1 (Hl e);clear n1 hxy;go_wp2
                 go_region
                 all_goals go_wp2
                 all_goals go_ret
                 all_goals exact Aq.no (fun h=>HN.o x y E.o F.o M.o h.2.2.2) I.o.drew
               .clear hxy;go_wp2
                go_region
                all_goals go_wp2
                all_goals go_ret
                all_goals exact Aq.no (fun h=>HN.o x y E.o F.o M.o h.2.2.2) I.o.drew
             .obtain rfl:k=B.length:=Yv
              have m:=v.o.1;rw[Zt (Zx),Zt (by have:=E6.o;omega)]at m;have HL:=Yw m;have zI:=Yw v.o.2;have I:=Yw g;clear m t u H G g;go_wp2;go_ret;exact Aq.yes ⟨⟨E0.o,E1.o,E2.o,E3.o⟩,HK.o,HP.o,HL.o⟩ I.o
       .have b6:=bne_iff_ne.2 Yv;go_enter func132,ntmps132;go_upto_region 1 with fail;rw[<-D.o];clear D;go_wp2;go_ret;exact Aq.no (fun h=>e6 (by rw[h.2.2.2])) R
      .have b5:=bne_iff_ne.2 Yv;go_enter func132,ntmps132;go_upto_region 1 with fail;rw[<-D.o];clear D;go_wp2;go_ret;exact Aq.no (fun h=>e5 (by rw[h.2.2.1])) R
     .have b4:=bne_iff_ne.2 Yv;go_enter func132,ntmps132;go_upto_region 1 with fail;rw[<-D.o];clear D;go_wp2;go_ret;exact Aq.no (fun h=>e4 (by rw[h.2.1])) R
    .have b3:(d !=b)=true:=by simp[e3]
     go_enter func132,ntmps132;go_upto_region 1 with fail;rw[<-D.o];clear D;go_wp2;go_ret;exact Aq.no (fun h=>e3 h.1.2.2.2) R
   .have b2:(j !=c)=true:=by simp[e2]
    go_enter func132,ntmps132;go_upto_region 1 with fail;rw[<-D.o];clear D;go_wp2;go_ret;exact Aq.no (fun h=>e2 h.1.2.2.1) R
  .have b1:(now !=s)=true:=by simp[e1]
   go_enter func132,ntmps132;go_upto_region 1 with fail;rw[<-D.o];clear D;go_wp2;go_ret;exact Aq.no (fun h=>e1 h.1.2.1) R
 .have b0:(V !=J)=true:=by simp[e0]
  go_enter func132,ntmps132;go_upto_region 1 with fail;rw[<-D.o];clear D;go_wp2;go_ret;exact Aq.no (fun h=>e0 h.1.1) R
end
theorem ML(a b:Zk)(c d:Nat)(f h:Zl)(w:Zh)(N:Ab w w.heap.size a f)(M:Ab w w.heap.size b h)(ha:a=none->f.length=0/\c=0)(hb:b=none->h.length=0/\d=0)(hl:f.length<=1048576)(zA:h.length<=1048576):
 Calls prog 86 #[.agg #[.slice a f.length c,.slice b h.length d]] w fun e S=>∃g cap,e=.returned (Yz g (f++h).length cap)/\S.ownsRow w.heap.size 9 1 (Yz g (f++h).length cap) (f++h).length ((f++h).map Value.string)/\Zz w S:=by
 obtain⟨O,L,y,z,A⟩:=info_parts BW;obtain⟨W,m⟩:∃W,W=w.alloc (.cells #[.slice a f.length c,.slice b h.length d] 76):=⟨_,rfl⟩;have o:=(Bc m).1;have zW:=(Bc m).2.1;have F:=(Bc m).2.2;have B:Below W.heap.size W (W.alloc (.cells #[] 9)):=Zy;have Q:(W.alloc (.cells #[] 9)).drew.ownsRow (w.heap.size+1) 9 1 (Yz (w.heap.size+1) 0 0) 0 (([]:Zl).map Value.string):=by have K:=World.ownsRow_lit (base:=w.heap.size+1) (e:=9) (size:=1) W #[] 0 Yv Yp rfl;rw[zW]at K;exact K
 have R:=(Ab.below N (o.trans (B.drew.mono o.size))).bh;have H:=Aa.below F B;obtain⟨y0,y1⟩:=Aa.c2 F 0 1;obtain⟨z0,z1⟩:=Aa.c2 H 0 1;have I:=Yw m;have J:=Yw (Zn H (o.trans (B.mono o.size)));have X:Hid (Ab w w.heap.size b h):=M;clear m F H N M;go_enter func86,ntmps86;go_upto_region 1 with fail;rw[<-I.o];clear I
 go_region_law (first
  |(refine Av (W.alloc (.cells #[] 9)).drew rfl (.tmp 3) (.tmp 5) 29 rfl (w.heap.size+1) 9 O Zc 16 underlying29 L y z A rfl (w.heap.size+1) 0 0 [] rfl Q a f.length c f rfl rfl ha R Yp Yv Yn ?_;intro D q E l j r t;simp only[Nat.zero_add,List.nil_append]at l;have G:Aa E w.heap.size [.slice a f.length c,.slice b h.length d]:=(Aa.same J.o.1 (j.block _ Yn Yn));have n:Below w.heap.size w E:=(J.o.2.drew.grown j Yn (fun k C=>by cases C;omega));have Y:=(G 0 _ rfl).1;have Z:=(G 1 _ rfl).1;have r6:=(Ab.below X.o n).bh;have U:=j.size;simp at U)
  |(refine Av E rfl (.tmp 6) (.tmp 8) 29 rfl (w.heap.size+1) 9 O Zc 16 underlying29 L y z A rfl D f.length q f rfl l b h.length d h rfl rfl hb r6 Yp Yv Yv ?_;intro P i T x v s u))
 all_goals
  have l6:w.heap.size+1<=D:=(l.lt D rfl).1;have V:Hid (T.ownsRow w.heap.size 9 1 (Yz P (f.length+h.length) i) (f.length+h.length) ((f++h).map Value.string)/\Zz w T):=⟨x.mono Yv,n.grown v n.size (fun k C=>by cases C;omega)⟩;clear l j r t G n Y Z r6 U x v s u Q R y0 y1 z0 z1;go_wp2;go_ret;rw[List.length_append];exact⟨P,i,rfl,V.o⟩
section
attribute [local go_sem↓] Go.wp_at_zero Go.wp_at_succ
theorem Kh{a:Zl}:a.Nodup↔∀(j:Nat) x,a[j]?=some x->x∉a.take j:=by
 unfold List.Nodup;rw[List.pairwise_iff_getElem];constructor
 .intro h j x b k;obtain⟨g,rfl⟩:=Zw b;obtain⟨i,c,e⟩:=List.getElem_of_mem k;have d:i<j:=by simp at c;omega
  rw[List.getElem_take]at e;exact h i j Yv g d e
 .intro h i j c b l e;refine h j a[j] (Zv b) ?_;rw[<-e];have f:i<(a.take j).length:=Yt
  have:=List.getElem_mem f;rw[List.getElem_take]at this;exact this
theorem Ab.front{B:Nat}{c:Zl}(h:Ab w B a c)(K:Nat):Ab w B a (c.take K):=by
 rcases h with h|⟨q,off,d,e,f⟩
 .exact .inl (by simp[h])
 .refine .inr ⟨q,off,d,e,fun i s b=>f i s ?_⟩;have g:=(Zw b).1;simp at g;rw[List.getElem?_take_of_lt Yv]at b;exact b
theorem Tz(o now t c q f l r:Int)(T P L:Value)(a b:Zk)(X D:Nat)(m g:Zl)(w:Zh)(hq:Ab w w.heap.size a m)(hm:Ab w w.heap.size b g)(hf:Qn m g)(zK:g.length<=D)(zP:c<=1000000000):
 Calls prog 133 #[.agg #[Zg o,Zg now,Zg t,Zg c,T,P,L],.agg (Xy q a m.length X b g.length D f l r)] w fun e w'=>Aq (BQ o c q f l r m g) w w' e:=by
 have zS:=hf.q;have zR:=hf.m;obtain⟨W,Y⟩:∃W,W=(w.alloc (.cells #[Zg o,Zg now,Zg t,Zg c,T,P,L] 27)).alloc (.cells (Xy q a m.length X b g.length D f l r) 78):=⟨_,rfl⟩;have d:Below w.heap.size w W:=by rw[Y];exact(Zy).alloc Yu _
 have zG:Ah W w.heap.size o now t c T P L:=by rw[Y];exact(Ah.new w o now t c T P L 27).below (Zy)
 have zF:BP W (w.heap.size+1) q (.slice a m.length X) (.slice b g.length D) f l r:=by rw[Y];have:=BP.new (w.alloc (.cells #[Zg o,Zg now,Zg t,Zg c,T,P,L] 27)) q f l r (.slice a m.length X) (.slice b g.length D) 78;rw[World.size_alloc]at this;exact this
 have zJ:W.heap.size=w.heap.size+2:=by rw[Y];simp
 have HW:=Yw Y;clear Y;have z:=Yw zG;have v:=Yw zF;have HQ:=Yw hq;have HM:=Yw hm;clear zG zF hq hm;by_cases p1:q<0
 .have d1:decide (q<0)=true:=by simpa using p1
  go_enter func133,ntmps133;go_wp2;go_ret;rw[<-HW.o];exact Aq.no (P:=BQ o c q f l r m g) (fun h=>by rcases h.K with h|h|h<;>(have:=h.1;omega)) d
 have d1:decide (q<0)=false:=by simpa using p1
 by_cases p2:2<q
 .have d2:decide ((2:Int)<q)=true:=by simpa using p2
  go_enter func133,ntmps133;go_wp2;go_ret;rw[<-HW.o];exact Aq.no (P:=BQ o c q f l r m g) (fun h=>by rcases h.K with h|h|h<;>(have:=h.1;omega)) d
 have d2:decide ((2:Int)<q)=false:=by simpa using p2
 go_enter func133,ntmps133;go_wp2_with fail;rw[<-HW.o];refine(Cj r 0 1000000000 W).mono ?_;rintro e w1 ⟨rfl,rfl⟩;obtain⟨I,E,F,J,K,M,S⟩:=v.o;by_cases h1:0<=r/\r<=1000000000
 .rw[decide_eq_true h1];by_cases h2:m.length<=23200
  .have B:decide ((23200:Int)<(m.length:Int))=false:=Yt
   by_cases h3:g.length<=600
   .have G:decide ((600:Int)<(g.length:Int))=false:=Yt
    clear HW;go_wp2
    go_loopw [5] (fun i wr=>∃k:Nat,k<=m.length/\i=Zg k/\Hid (∀j x,j<k->m[j]?=some x->(x.size:Int)=o)/\Hid (Ah wr w.heap.size o now t c T P L)/\Hid (BP wr (w.heap.size+1) q (.slice a m.length X) (.slice b g.length D) f l r)/\Zz w wr) (fun i _=>m.length -(intOf i).toNat)
    case atStart=>exact⟨0,Nat.zero_le _,rfl,fun j x h=>by omega,z,v,d⟩
    case round=>
     clear I E F J K M S z v d zJ;obtain⟨k,hk,rfl,u,z,v,d⟩:=hrel;obtain⟨I,E,F,J,K,M,S⟩:=v.o;obtain⟨N,_,_,U,_,_,_,y7⟩:=z.o;by_cases hlt:k<m.length
     .obtain⟨b',off,ha,hb,hc⟩:=(Ab.below HQ.o d).at hlt;subst ha;have R:=Yw (Zv hlt);have Q:=hc k _ R;have O:=Zr hb d.size;clear hc;generalize m[k]=x at *
      have Z:=Ag.cell E S;have q2:=Ag.cell Q O;have q3:=Ag.cell N y7;have zH:=Ag.ne wr;by_cases h:(x.size:Int)=o
      .have hn:((x.size:Int) !=o)=false:=by simp[h]
       have HA:Hid (∀j y,j<k+1->m[j]?=some y->(y.size:Int)=o):=by
        intro j y hj H;rcases Nat.lt_or_ge j k with C|C
        .exact u j y C H
        .obtain rfl:j=k:=Yv
         rw[R.o]at H;cases H;exact h
       go_wp2;refine Aj Ys Ys ?_
       repeat (go_big_quiet_step (fail))
       refine wpQuiet_nil ?_;intro n;have zB:=Yw (Ah.af z.o n.h y7);have zA:=Yw (BP.af v.o n.h S);have A:=d.trans (n.h.mono d.size);clear Z q2 q3 I E F J K M N U Q;go_wp2;exact⟨⟨k+1,Yv,Yo,HA,zB,zA,A⟩,by simp[intOf];omega⟩
      .have hn:((x.size:Int) !=o)=true:=by simp[h]
       go_wp2;refine Aj Ys Ys ?_
       repeat (go_big_quiet_step (fail))
       refine wpQuiet_nil ?_;intro n;have A:=d.trans (n.h.mono d.size);clear Z q2 q3 I E F J K M N U Q;go_wp2;go_ret;exact Aq.no (P:=BQ o c q f l r m g) (fun C=>h (C.dj.q x (Zs R.o))) A
     .have zC:Hid (∀s∈m,(s.size:Int)=o):=by intro s hs;obtain⟨j,hj,rfl⟩:=List.getElem_of_mem hs;exact u j _ Yv (Zv hj)
      clear u;go_wp2
      go_loopw [6] (fun i wr=>∃k:Nat,k<=g.length/\i=Zg k/\Hid (∀j x,j<k->g[j]?=some x->(x.size:Int)=o/\x∉g.take j)/\Hid (Ah wr w.heap.size o now t c T P L)/\Hid (BP wr (w.heap.size+1) q (.slice a m.length X) (.slice b g.length D) f l r)/\Zz w wr) (fun i _=>g.length -(intOf i).toNat)
      case atStart=>exact⟨0,Nat.zero_le _,rfl,fun j x h=>by omega,z,v,d⟩
      case round=>
       clear I E F J K M S N U y7 z v d;obtain⟨k,hk,rfl,u,z,v,d⟩:=hrel;obtain⟨I,E,F,J,K,M,S⟩:=v.o;obtain⟨N,_,_,U,_,_,_,y7⟩:=z.o;by_cases hlt:k<g.length
       .obtain⟨b',off,ha,hb,hc⟩:=(Ab.below HM.o d).at hlt;subst ha;have R:=Yw (Zv hlt);have Q:=hc k _ R;have O:=Zr hb d.size;clear hc;generalize g[k]=x at *
        have Z:=Ag.cell F S;have q2:=Ag.cell Q O;have q3:=Ag.cell N y7;have zH:=Ag.ne wr;have zI:(g.take k).length=k:=Yt
        have hH:∀n:Ag wr,Calls prog 58 #[.slice (some ⟨b',off,none⟩) k D,.string x] n.w fun e w'=>e=.returned (.bool ((g.take k).any (fun y=>decide (y=x))))/\Below n.w.heap.size n.w w':=fun n=>by have:=DM (some ⟨b',off,none⟩) D (g.take k) x n.w w.heap.size (Ab.front (Ab.below HM.o (d.trans (n.h.mono d.size))) k) Yv;rw[zI]at this;exact this.mono (by rintro e w' ⟨rfl,rfl⟩;exact⟨rfl,Below.refl _ _⟩)
        have HH:=Yw hH;clear hH;have zT:k<=D:=Yv
        by_cases h:(x.size:Int)=o
        .have hn:((x.size:Int) !=o)=false:=by simp[h]
         cases hin:(g.take k).any (fun y=>decide (y=x))with
         |false=>
          rw[hin]at HH;have V:x∉g.take k:=fun hx=>by have:(g.take k).any (fun y=>decide (y=x))=true:=List.any_eq_true.2 ⟨x,hx,Yu⟩;rw[hin]at this;cases this
          have HA:Hid (∀j y,j<k+1->g[j]?=some y->(y.size:Int)=o/\y∉g.take j):=by
           intro j y hj H;rcases Nat.lt_or_ge j k with C|C
           .exact u j y C H
           .obtain rfl:j=k:=Yv
            rw[R.o]at H;cases H;exact⟨h,V⟩
          clear V u;go_wp2;refine Aj Ys Ys ?_
          repeat (go_big_quiet_step (exact Ag.calls (HH.o _)))
          refine wpQuiet_nil ?_;intro n;have zB:=Yw (Ah.af z.o n.h y7);have zA:=Yw (BP.af v.o n.h S);have A:=d.trans (n.h.mono d.size);clear Z q2 q3 I E F J K M N U Q;go_wp2;exact⟨⟨k+1,Yv,Yo,HA,zB,zA,A⟩,by simp[intOf];omega⟩
         |true=>
          rw[hin]at HH;have HN:Hid (x∈g.take k):=by
           obtain⟨y,H,e⟩:=List.any_eq_true.1 hin;have:y=x:=by simpa using e
           rw[<-this];exact H
          clear u;go_wp2;refine Aj Ys Ys ?_
          repeat (go_big_quiet_step (exact Ag.calls (HH.o _)))
          refine wpQuiet_nil ?_;intro n;have A:=d.trans (n.h.mono d.size);clear Z q2 q3 I E F J K M N U Q;go_wp2;go_ret;exact Aq.no (P:=BQ o c q f l r m g) (fun C=>(Kh.1 C.dj.nd) k x R.o HN.o) A
        .have hn:((x.size:Int) !=o)=true:=by simp[h]
         go_wp2;refine Aj Ys Ys ?_
         repeat (go_big_quiet_step (fail))
         refine wpQuiet_nil ?_;intro n;have A:=d.trans (n.h.mono d.size);clear Z q2 q3 I E F J K M N U Q;go_wp2;go_ret;exact Aq.no (P:=BQ o c q f l r m g) (fun C=>h (C.dj.m x (Zs R.o))) A
       .have HS:Hid (RG o m g):=by refine⟨h2,h3,zC.o,fun s hs=> ?_,Kh.2 fun j x hx=>(u j x (by have:=(Zw hx).1;omega) hx).2⟩;obtain⟨j,hj,rfl⟩:=List.getElem_of_mem hs;exact(u j _ Yv (Zv hj)).1
        clear u zC;by_cases p0:q=0
        .subst p0;by_cases e1:m.length=0
         .by_cases B:g.length=0
          .by_cases G:f=0
           .by_cases e4:l=0
            .go_wp2;go_ret;exact Aq.yes (P:=BQ o c 0 f l r m g) ⟨h1.1,h1.2,HS.o,.inl ⟨rfl,List.eq_nil_of_length_eq_zero e1,List.eq_nil_of_length_eq_zero B,G,e4⟩⟩ d
            .have zO:(l==0)=false:=by simpa using e4
             go_wp2;go_ret;exact Aq.no (P:=BQ o c 0 f l r m g) (fun h=>by have:=h.K;unfold LL at this;simp at this;have h9:=this.2.2.2;omega) d
           .have zE:(f==0)=false:=by simpa using G
            go_wp2;go_ret;exact Aq.no (P:=BQ o c 0 f l r m g) (fun h=>by have:=h.K;unfold LL at this;simp at this;have h9:=this.2.2.1;omega) d
          .have zN:=beq_eq_false_iff_ne.2 Yv;go_wp2;go_ret;exact Aq.no (P:=BQ o c 0 f l r m g) (fun h=>by have:=h.K;unfold LL at this;simp at this;exact B (by rw[this.2.1];rfl)) d
         .have zM:=beq_eq_false_iff_ne.2 Yv;go_wp2;go_ret;exact Aq.no (P:=BQ o c 0 f l r m g) (fun h=>by have:=h.K;unfold LL at this;simp at this;exact e1 (by rw[this.1];rfl)) d
        .have zV:(q==0)=false:=by simpa using p0
         go_wp2_with fail;refine(Cj f 0 c wr).mono ?_;rintro e w1 ⟨rfl,rfl⟩;by_cases e1:0<=f/\f<=c
         .rw[decide_eq_true e1];have zU:=Ia Yv Yv;go_wp2_with fail;refine(Cj l 1 (f+1) _).mono ?_;rintro e w1 ⟨rfl,rfl⟩;by_cases B:1<=l/\l<=f+1
          .rw[decide_eq_true B];by_cases p3:q=2
           .subst p3;go_wp2;go_ret;exact Aq.yes (P:=BQ o c 2 f l r m g) ⟨h1.1,h1.2,HS.o,.inr (.inr ⟨rfl,e1.1,e1.2,B.1,B.2⟩)⟩ d
           .have zW:(q==2)=false:=by simpa using p3
            obtain rfl:q=1:=Yv
            by_cases G:l=f+1
            .have zE:(l==f+1)=true:=by simpa using G
             go_wp2;go_ret;exact Aq.yes (P:=BQ o c 1 f l r m g) ⟨h1.1,h1.2,HS.o,.inr (.inl ⟨rfl,e1.1,e1.2,G⟩)⟩ d
            .have zE:(l==f+1)=false:=by simpa using G
             go_wp2;go_ret;exact Aq.no (P:=BQ o c 1 f l r m g) (fun h=>by have:=h.K;unfold LL at this;simp at this;exact G this.2.2) d
          .rw[decide_eq_false B];go_wp2;go_ret;exact Aq.no (P:=BQ o c q f l r m g) (fun h=>by rcases h.K with h|h|h;exact p0 h.1;exact B (by have:=h.2.2.2;omega);exact B h.2.2.2) d
         .rw[decide_eq_false e1];go_wp2;go_ret;exact Aq.no (P:=BQ o c q f l r m g) (fun h=>by rcases h.K with h|h|h;exact p0 h.1;exact e1 ⟨h.2.1,h.2.2.1⟩;exact e1 ⟨h.2.1,h.2.2.1⟩) d
   .have G:decide ((600:Int)<(g.length:Int))=true:=Yt
    go_wp2;go_ret;exact Aq.no (P:=BQ o c q f l r m g) (fun h=>h3 h.dj.nm) d
  .have B:decide ((23200:Int)<(m.length:Int))=true:=Yt
   go_wp2;go_ret;exact Aq.no (P:=BQ o c q f l r m g) (fun h=>h2 h.dj.nq) d
 .rw[decide_eq_false h1];go_wp2;go_ret;exact Aq.no (P:=BQ o c q f l r m g) (fun h=>h1 ⟨h.jj,h.jh⟩) d
end
structure RO (w wx:Zh) (v:Vd) (a:Va) (b:Nat) (o:An) (ta pa la:Zk) (tc pc lc:Nat):Prop where
 box:Aa wx b [Zg o.code,Zg o.wd,Zg o.D,Zg o.G,Zg o.C,.slice ta o.ks.length tc,.slice pa o.ps.length pc,.slice la o.ls.length lc,.string o.sm,Zg o.le,.string o.a,.string o.b]
 rows:AZ wx wx.heap.size ta pa la o.ks o.ps o.ls
 rto:Lb v.wd (v.ss++v.A) o
 im:Aa wx w.heap.size [Zg v.wd,Zg v.lim,.slice a.Z v.ss.length a.j,.slice a.X v.A.length a.Y,Zg v.O,Zg v.D,Zg v.G,Zg v.C,.slice a.T v.ks.length a.U,.slice a.L v.ps.length a.Q,.slice a.J v.ls.length a.P,Zg v.K,.slice a.g v.F.length a.qc,.slice a.i v.ms.length a.mc,Zg v.R,Zg v.S,Zg v.ro]
 bt:Below w.heap.size w wx
theorem RO.fin{d:Zh}{a:Va}{b:Nat}{o:An}{i h g:Zk}{n m l:Nat}(q:Lb v.wd (v.ss++v.A) o)(r:∀X,Tn [b] d X->AZ X X.heap.size i h g o.ks o.ps o.ls)(f:Zz w c)(e:Zz c d)(t:Aa c w.heap.size (Xq v a))(x:w.heap.size<c.heap.size)(u:Aa d b z12)(z:c.heap.size<=b):
 RO w ((((((((((((d.setCell (Zd b 0) (Zg o.code)).setCell (Zd b 1) (Zg o.wd)).setCell (Zd b 2) (Zg o.D)).setCell (Zd b 3) (Zg o.G)).setCell (Zd b 4) (Zg o.C)).setCell (Zd b 5) (.slice i o.ks.length n)).setCell (Zd b 6) (.slice h o.ps.length m)).setCell (Zd b 7) (.slice g o.ls.length l)).setCell (Zd b 8) (.string o.sm)).setCell (Zd b 9) (Zg o.le)).setCell (Zd b 10) (.string o.a)).setCell (Zd b 11) (.string o.b)) v a b o i h g n m l:=by
 have k:=BR d b (Zg o.code) (Zg o.wd) (Zg o.D) (Zg o.G) (Zg o.C) (.slice i o.ks.length n) (.slice h o.ps.length m) (.slice g o.ls.length l) (.string o.sm) (Zg o.le) (.string o.a) (.string o.b);have y:=e.size;refine⟨Wc u _ _ _ _ _ _ _ _ _ _ _ _,?_,q,?_,?_⟩
 .exact r _ k
 .exact Aa.same (Aa.below t e) (k.block _ Yv Yt)
 .exact(f.trans (e.mono f.size)).trans (k.below (by have:=f.size;omega) (fun j s=>by simp at s;have:=f.size;omega))
theorem DS(v:Vd)(a:Va)(w:Zh)(hr:CF w w.heap.size a v)(hc:Tj a v)(B:Fw v):
 Calls prog 113 #[.agg (Xt v a)] w fun e w'=>Aq (Cp v) w w' e:=by
 obtain⟨W,hW⟩:∃W,W=w.alloc (.cells (Xt v a) 80):=⟨_,rfl⟩;have O:=(Bc hW).1;have zW:=(Bc hW).2.1;have xW:=(Bc hW).2.2;have HX:Hid (Aa W _ _):=(Bc hW).2.2;have HR:=Yw hr;have HW:=Yw hW;have Y:=Yw (Ga v.wd W);have zG:=Yw (Cj v.lim 0 1000000 W);have zM:=Yw (DJ a.Z a.X a.j a.Y v.ss v.A W w.heap.size O.size (hr.s.below O) (hr.t.below O) B.s B.t B.ss B.A)
 obtain⟨Q,R,S,U,y4,y5,y6,y7,y8,y9,G,H,I,J,K,M,N⟩:=NI xW;clear hW xW hr;by_cases hwd:1<=v.wd/\v.wd<=8
 .rw[decide_eq_true hwd]at Y;by_cases hlim:0<=v.lim/\v.lim<=1000000
  .rw[decide_eq_true hlim]at zG;cases hlog:Dm v.ss v.A with
   |true=>
    rw[hlog]at zM;have yK:=DV hlog;obtain⟨xs,zO⟩:∃xs,xs=v.ss++v.A:=⟨_,rfl⟩;have HA:Hid (∀X,Zz W X->Calls prog 86 #[.agg #[.slice a.Z v.ss.length a.j,.slice a.X v.A.length a.Y]] X fun e w'=>∃g cap,e=.returned (Yz g xs.length cap)/\w'.ownsRow X.heap.size 9 1 (Yz g xs.length cap) xs.length (xs.map Value.string)/\Zz X w'):=fun X hX=>by have hb:=O.trans (hX.mono O.size);rw[zO];exact ML a.Z a.X a.j a.Y v.ss v.A X (HR.o.s.M hb) (HR.o.t.M hb) hc.s hc.t B.s B.t
    have HS:Hid (∀(X:Zh) (g cap:Nat),Ab X X.heap.size (some ⟨g,0,none⟩) xs->Calls prog 85 #[Zg v.wd,Yz g xs.length cap] X fun e w'=>∃(o:An) (m:Zk) (q:Nat) (j:Zk) (l:Nat) (f:Zk) (i:Nat) (rs:Zj),e=.returned (.agg #[Zg o.code,Zg o.wd,Zg o.D,Zg o.G,Zg o.C,.slice m o.ks.length q,.slice j o.ps.length l,.slice f o.ls.length i,.string o.sm,Zg o.le,.string o.a,.string o.b])/\Lb v.wd xs o/\AY w' X.heap.size (.slice m o.ks.length q) (.slice j o.ps.length l) (.slice f o.ls.length i) rs o.ks o.ps o.ls/\Zz X w'):=fun X g cap h=>by
     refine(Kg v.wd _ _ xs X h (by rw[zO];omega) (fun s hs=>by rw[zO]at hs;rcases List.mem_append.1 hs with h|h;exact B.ss s h;exact B.A s h)).mono ?_;rintro e w' ⟨o,T,P,L,rs,t,rfl,hS,hb⟩;obtain⟨m,q,j,l,f,i,rfl,rfl,rfl,_⟩:=hS.rows;exact⟨o,m,q,j,l,f,i,rs,rfl,t,hS,hb⟩
    have zY:=Yw zO;clear zO;have HM:=Yw hc.m;clear hc;go_enter func113,ntmps113;go_wp2_with fail;rw[<-HW.o];refine Calls.mono Y.o ?_;rintro e w1 ⟨rfl,c⟩;replace c:=c.symm;subst c;go_wp2_with fail;refine Calls.mono zG.o ?_;rintro e w1 ⟨rfl,c⟩;replace c:=c.symm;subst c;go_wp2_with fail;refine Calls.mono zM.o ?_;rintro e d ⟨rfl,zB⟩;have x2:=Aa.below HX.o zB
    have z2:w.heap.size+1<=d.heap.size:=by have:=zB.size;omega
    have yD:=Yw zB;have zR:=Yw x2;have V:=Yw (O.trans (zB.mono O.size));clear Q R S U y4 y5 y6 y7 y8 y9 G H I J K M N Y zG zM zB HW;obtain⟨Q,R,S,U,_⟩:=NI x2;clear x2;go_upto_region 3 with fail;generalize (.agg (Xt v a):Value)=dv0;go_cut [3] (fun u wx=>∃(b:Nat) (o:An) (m j f:Zk) (q l i:Nat),u=Yy b/\Hid (RO w wx v a b o m j f q l i))
    case first=>
     have Z:Hid (∀X,Zz d X->X.cell? (Zd (w.heap.size) 0)=some (Zg v.wd)/\X.cell? (Zd (w.heap.size) 2)=some (.slice a.Z v.ss.length a.j)/\X.cell? (Zd (w.heap.size) 3)=some (.slice a.X v.A.length a.Y)):=fun X hX=>by obtain⟨u0,u1,u2,u3,_⟩:=NI (Aa.below zR.o hX);exact⟨u0,u2,u3⟩
     have HL:Hid (∀X,Zz d X->Zz W X):=fun X hX=>yD.o.trans (hX.mono yD.o.size);have D0:Below d.heap.size d d.drew:=(Below.refl _ _).drew;have D1:∀o,Zz d (d.alloc o).drew:=fun o=>(Zy).drew;clear Q R S U
     go_region_held3 (fun X=>X.cell? (Zd (w.heap.size) 0)=some (Zg v.wd)/\X.cell? (Zd (w.heap.size) 2)=some (.slice a.Z v.ss.length a.j)/\X.cell? (Zd (w.heap.size) 3)=some (.slice a.X v.A.length a.Y))
      (first
        |with_reducible exact Z.o _ D0
        |with_reducible exact Z.o _ (D1 _)
        |with_reducible exact Z.o _ z
        |with_reducible exact Z.o _ (z.alloc z.size _)
        |with_reducible exact Z.o _ D
        |with_reducible exact Z.o _ (D.alloc D.size _)
        |with_reducible exact Z.o _ (D.trans ((BR w4 _ _ _ _ _ _ _ _ _ _ _ _ _).below D.size (by intro x hx;simp at hx;omega))))
      (first
        |(go_at_call 86;guard_target=~Calls prog 86 _ (World.drew (World.alloc d _)) _;refine Calls.mono (HA.o (d.alloc (.cells Yi 134)).drew (HL.o _ (D1 _))) ?_;rintro e y ⟨g,cap,rfl,zN,zS⟩;have z:Below d.heap.size d y:=(D1 _).trans (zS.mono Yu);have zC:=Ab.own zN;clear zN;have zA:Aa y d.heap.size z12:=Aa.below (v:=Ze) (w:=(d.alloc (.cells Yi 134))) (Aa.new d z12 134) (Gq zS))
        |(go_at_call 86;guard_target=~Calls prog 86 _ (World.drew d) _;refine Calls.mono (HA.o d.drew (HL.o _ D0)) ?_;rintro e y ⟨g,cap,rfl,zN,zS⟩;have z:Below d.heap.size d y:=D0.trans zS;have zC:=Ab.own zN;clear zN;have nA:=z)
        |(go_at_call 85;have zT:=zA;refine Calls.mono (HS.o y g cap zC) ?_;rintro e w4 ⟨o,m,q,j,l,f,i,rs,rfl,t,F,zE⟩;have E:=Yw (Zn t F);clear t F zC;have D:Below d.heap.size d w4:=z.trans (zE.mono z.size);have yA:Aa w4 d.heap.size z12:=Aa.below (v:=Ze) zA zE;have yC:d.heap.size<y.heap.size:=Aa.lt (v:=Ze) zA;have zJ:d.heap.size<=d.heap.size:=Zx;obtain⟨⟨t0,q0⟩,⟨t1,q1⟩,⟨t2,q2⟩,⟨t3,q3⟩,⟨t4,q4⟩,⟨t5,q5⟩,⟨t6,q6⟩,⟨t7,q7⟩,⟨t8,q8⟩,⟨t9,q9⟩,⟨t10,q10⟩,t11,q11⟩:=BL yA)
        |(go_at_call 85;guard_target=~Calls prog 85 _ (World.alloc y _) _;refine Calls.mono (HS.o (y.alloc (.cells Yi 134)) g cap (zC.M (Zy))) ?_;rintro e w4 ⟨o,m,q,j,l,f,i,rs,rfl,t,F,zE⟩;have E:=Yw (Zn t F);clear t F zC;have D:Below d.heap.size d w4:=(z.alloc z.size _).trans (zE.mono (by have:=z.size;simp;omega));have yB:Aa w4 y.heap.size z12:=Aa.below (v:=Ze) (w:=(y.alloc (.cells Yi 134))) (Aa.new y z12 134) zE;have zJ:d.heap.size<=y.heap.size:=z.size;obtain⟨⟨t0,q0⟩,⟨t1,q1⟩,⟨t2,q2⟩,⟨t3,q3⟩,⟨t4,q4⟩,⟨t5,q5⟩,⟨t6,q6⟩,⟨t7,q7⟩,⟨t8,q8⟩,⟨t9,q9⟩,⟨t10,q10⟩,t11,q11⟩:=BL yB)
        |(go_at_call 85;have zT:=nA;refine Calls.mono (HS.o y g cap zC) ?_;rintro e w4 ⟨o,m,q,j,l,f,i,rs,rfl,t,F,zE⟩;have E:=Yw (Zn t F);clear t F zC;have D:Below d.heap.size d w4:=z.trans (zE.mono z.size);have nD:=nA))
     all_goals
      go_wp2_with fail;go_meet
     all_goals first
      |(have zT:=yA
        exact⟨d.heap.size,o,m,j,f,q,l,i,rfl,RO.fin (zY.o▸E.o.1) (fun X ht=>AY.get (E.o.2.I ht (by simp;exact yC))) V.o D zR.o Yv yA zJ⟩)
      |(have zT:=yB
        exact⟨y.heap.size,o,m,j,f,q,l,i,rfl,RO.fin (zY.o▸E.o.1) (fun X ht=>AY.get (E.o.2.I ht Yu)) V.o D zR.o Yv yB zJ⟩)
      |(have zT:=nD
        exact⟨w4.heap.size,o,m,j,f,q,l,i,rfl,⟨Aa.new w4 [Zg o.code,Zg o.wd,Zg o.D,Zg o.G,Zg o.C,.slice m o.ks.length q,.slice j o.ps.length l,.slice f o.ls.length i,.string o.sm,Zg o.le,.string o.a,.string o.b] 134,(AY.get E.o.2).M (Zy),zY.o▸E.o.1,Aa.below (Aa.below zR.o D) (Zy),(V.o.trans (D.mono V.o.size)).alloc (Zm V.o.size D.size) _⟩⟩)
    case rest=>
     clear Q R S U HA HS;obtain⟨b,o,m,j,f,q,l,i,rfl,HV⟩:=hcut;rcases HV.o.rto with⟨yL,_⟩|⟨_,⟨n,zH,ho⟩|⟨r,zH,ho⟩⟩
     .exact absurd ⟨hwd,yK⟩ yL
     .have zU:o.code=7:=by rw[ho]
      obtain⟨m0,_⟩:=HV.o.box 0 _ rfl;rw[zU]at m0;have zF:=Yw HV.o.bt;have zV:Hid (¬Cp v):=fun⟨r,h⟩=>Fe.not hwd.1 hwd.2 zH h.run;clear ho zH HV;go_wp2;go_ret;exact Aq.no zV.o zF.o
     .subst ho;have zI:=zH.ok (Ff hwd.1 hwd.2);obtain⟨⟨m0,_⟩,⟨m1,_⟩,⟨m2,_⟩,⟨m3,_⟩,⟨m4,_⟩,⟨m5,_⟩,⟨m6,_⟩,m7,_⟩:=Um HV.o.box;obtain⟨Q,R,S,U,y4,y5,y6,y7,y8,y9,G,H,I,J,K,M,N⟩:=NI HV.o.im;have zF:=Yw HV.o.bt;have yH:=HR.o.N.af zF.o
      have yF:=Yw (Ln v.wd r.D r.G r.C v.O v.D v.G v.C m j f a.T a.L a.J q l i a.U a.Q a.P r.ks v.ks r.ps v.ps r.ls v.ls wc HV.o.rows (yH.mono zF.o.size) ⟨by have:=zI.cf.len;omega,by have:=zI.np;omega,by have:=zI.nl;omega⟩ ⟨B.N.k,B.N.p,B.N.l⟩ (fun k hk=>by have:=zI.cu k hk;omega) B.N.r);have zX:=Yw HV.o.im;have zP:=Yw zH;have yJ:=Yw zI.ak;clear yH zI HV;go_wp2_with fail
      refine Calls.mono yF.o ?_;rintro e w5 ⟨bb,rfl,A,zZ⟩;have zK:=Yw (zF.o.trans (zZ.mono zF.o.size));have x5:=Aa.below zX.o zZ;clear m0 m1 m2 m3 m4 m5 m6 m7 Q R S U y4 y5 y6 y7 y8 y9 G H I J K M N yF zZ zH;cases bb with
      |false=>
       have zV:Hid (¬Cp v):=fun⟨r',h⟩=>by obtain rfl:=zP.o.co h.run;have:=A.2 h.same;cases this
       clear A x5 zX;go_wp2;go_ret;exact Aq.no zV.o zK.o
      |true=>
       have C:=Yw (A.1 rfl);obtain⟨Q,R,S,U,y4,y5,y6,y7,y8,y9,G,H,I,J,K,M,N⟩:=NI x5;have yE:=Yw (Tz v.O v.D v.G v.C v.K v.R v.S v.ro (.slice a.T v.ks.length a.U) (.slice a.L v.ps.length a.Q) (.slice a.J v.ls.length a.P) a.g a.i a.qc a.mc v.F v.ms w5 (HR.o.q.M zK.o) (HR.o.m.M zK.o) B.r HM.o (by have h1:=C.o.1.2.2.2;have h2:=yJ.o;omega));clear A x5 zX;go_wp2_with fail;refine Calls.mono yE.o ?_
       rintro e w6 ⟨bb,rfl,A,yG⟩;have yI:=Yw (zK.o.trans (yG.mono zK.o.size));have HN:Hid (bb=true↔Cp v):=by have h1:=C.o.1.1;rw[<-h1]at A;refine⟨fun h=>⟨r,hwd,hlim,hlog,zP.o,C.o,A.1 h⟩,fun⟨r',h⟩=>A.2 h.round⟩
       clear Q R S U y4 y5 y6 y7 y8 y9 G H I J K M N yE A yG;go_wp2;go_ret;exact⟨bb,rfl,HN.o,yI.o⟩
   |false=>
    rw[hlog]at zM;go_enter func113,ntmps113;go_wp2_with fail;rw[<-HW.o];refine Calls.mono Y.o ?_;rintro e w1 ⟨rfl,c⟩;replace c:=c.symm;subst c;go_wp2_with fail;refine Calls.mono zG.o ?_;rintro e w1 ⟨rfl,c⟩;replace c:=c.symm;subst c;go_wp2_with fail;refine Calls.mono zM.o ?_;rintro e d ⟨rfl,zB⟩;have V:=Yw (O.trans (zB.mono O.size));clear Q R S U y4 y5 y6 y7 y8 y9 G H I J K M N;go_wp2;go_ret
    exact Aq.no (fun⟨r,h⟩=>by have:=h.log;rw[hlog]at this;cases this) V.o
  .rw[decide_eq_false hlim]at zG;go_enter func113,ntmps113;go_wp2_with fail;rw[<-HW.o];refine Calls.mono Y.o ?_;rintro e w1 ⟨rfl,c⟩;replace c:=c.symm;subst c;go_wp2_with fail;refine Calls.mono zG.o ?_;rintro e w1 ⟨rfl,c⟩;replace c:=c.symm;subst c;clear Q R S U y4 y5 y6 y7 y8 y9 G H I J K M N;go_wp2;go_ret;exact Aq.no (fun⟨r,h⟩=>hlim h.lim) O
 .rw[decide_eq_false hwd]at Y;go_enter func113,ntmps113;go_wp2_with fail;rw[<-HW.o];refine Calls.mono Y.o ?_;rintro e w1 ⟨rfl,c⟩;replace c:=c.symm;subst c;clear Q R S U y4 y5 y6 y7 y8 y9 G H I J K M N;go_wp2;go_ret;exact Aq.no (fun⟨r,h⟩=>hwd h.wd) O
structure RP (w:Zh) (lo g:Nat) (rs:Zj) (ks:List Kd):Prop where
 len:rs.length=ks.length
 aj:w.ownsRow lo 37 4 (.slice (some ⟨g,0,none⟩) ks.length ks.length) ks.length (Ai kC (ks.zip rs))
 B:∀(i:Nat) (k:Kd) (r:Value),ks[i]?=some k->rs[i]?=some r->w.ownsRow (g+1) 9 1 r k.B.length (k.B.map Value.string)
 sm:∀r∈rs,∃q n c,r=.slice (some ⟨q,0,none⟩) n c
 inc:(rs.filterMap Value.ownBlock).Pairwise (·<·)
theorem RP.below{rs:Zj}{b:List Kd}(h:RP w lo g rs b)(a:Zz w c):RP c lo g rs b:=
 ⟨h.len,Ap h.aj a,fun i k r d e=>Ap (h.B i k r d e) a,h.sm,h.inc⟩
theorem RP.di{d:Zj}{c:List Kd}(h:RP w lo g d c):∀b∈d.filterMap Value.ownBlock,b<w.heap.size:=fun b j=>by
 obtain⟨x,k,f⟩:=List.mem_filterMap.1 j;obtain⟨i,a⟩:=List.getElem?_of_mem k;have e:i<c.length:=by rw[<-h.len];exact(Zw a).1
 exact(Ad (h.B i _ x (Zv e) a) f).2
def EI(w:Zh)(base:Nat)(a:Zk)(ss:Zl):Prop:=
 ss=[]\/∃b off,a=some ⟨b,off,none⟩/\base<=b/\b<w.heap.size/\∀i s,ss[i]?=some s->w.cell? (Zd b (off+i))=some (.string s)/\w.frozen? ⟨b,off+i,none⟩=false
def VH(a:Zk):Option Nat:=a.map (·.block)
theorem EI.row{c:Nat}(h:EI w c a d):Ab w w.heap.size a d:=by
 rcases h with h|⟨b,off,rfl,j,e,f⟩
 .exact .inl h
 .exact .inr ⟨b,off,rfl,e,fun i s g=>(f i s g).1⟩
theorem EI.stays{f:Zh}{c:Nat}{k:Zl}(h:EI w c a k)(m:w.heap.size<=f.heap.size)(d:∀b,VH a=some b->c<=b->b<w.heap.size->f.heap[b]?=w.heap[b]?):EI f c a k:=by
 rcases h with h|⟨b,off,rfl,g,l,j⟩
 .exact .inl h
 .have e:=d b rfl g l;exact .inr ⟨b,off,rfl,g,Yv,fun i s d=>⟨(World.cell?_of_block (a:=⟨b,off+i,none⟩) e).trans (j i s d).1,(World.frozen?_of_block (a:=⟨b,off+i,none⟩) e).trans (j i s d).2⟩⟩
theorem EI.below{e:Zh}(h:EI w base a d)(c:Zz w e):EI e base a d:=
 h.stays c.size (fun b _ _ f=>c.block b f)
theorem EI.mono{base':Nat}{ss:Zl}(h:EI w base a ss)(f:base'<=base):EI w base' a ss:=by
 rcases h with h|⟨b,off,rfl,e,c,d⟩
 .exact .inl h
 .exact .inr ⟨b,off,rfl,Yv,c,d⟩
theorem EI.set{off:Nat}{c:Zl}(h:EI w base (some ⟨g,off,none⟩) c){j:Nat}(d:j<c.length)(t:Zi):EI (w.setCell (Zd g (off+j)) (.string t)) base (some ⟨g,off,none⟩) (c.set j t):=by
 rcases h with h|⟨b,l,e,m,n,f⟩
 .rw[h]at d;simp at d
 .cases e;refine .inr ⟨g,off,rfl,m,by simpa using n,fun i s a=> ?_⟩;have o:i<c.length:=by have:=(Zw a).1;rw[List.length_set]at this;exact this
  have k:=f i _ (Zv o);refine⟨?_,by simpa using k.2⟩;by_cases hij:i=j
  .subst hij;rw[List.getElem?_set_self d]at a;cases a;exact World.cell?_setCell_same' _ _ _ (by rw[k.1];rfl)
  .rw[List.getElem?_set_ne (fun e=>hij e.symm)]at a;exact(World.cell?_setCell_other w _ _ _ Yn).trans (f i s a).1
def WW(g k g3 q3 r3 g5 k5:Nat)(v:Vd):Va:=⟨some ⟨g,0,none⟩,v.ss.length,some ⟨k,0,none⟩,v.A.length,some ⟨g3,0,none⟩,v.ks.length,some ⟨q3,0,none⟩,v.ps.length,some ⟨r3,0,none⟩,v.ls.length,some ⟨g5,0,none⟩,v.F.length,some ⟨k5,0,none⟩,v.ms.length⟩
def WX(v:Vd)(L:Nat)(X:Zh)(cs:Zj):Prop:=
 ∃g k g3 q3 r3 g5 k5,cs=[Zg v.wd,Zg v.lim,.slice (some ⟨g,0,none⟩) v.ss.length v.ss.length,.slice (some ⟨k,0,none⟩) v.A.length v.A.length,Zg v.O,Zg v.D,Zg v.G,Zg v.C,.slice (some ⟨g3,0,none⟩) v.ks.length v.ks.length,.slice (some ⟨q3,0,none⟩) v.ps.length v.ps.length,.slice (some ⟨r3,0,none⟩) v.ls.length v.ls.length,Zg v.K,.slice (some ⟨g5,0,none⟩) v.F.length v.F.length,.slice (some ⟨k5,0,none⟩) v.ms.length v.ms.length,Zg v.R,Zg v.S,Zg v.ro]/\CF X L (WW g k g3 q3 r3 g5 k5 v) v/\DR X ⟨g3,0,none⟩ v.ks
def WA(v:Vd)(lo N:Nat)(X:Zh)(cs:Zj):Prop:=
 (N<=X.heap.size/\lo<=X.heap.size)/\∃g k g3 q3 r3 g5 k5 rs,cs=Bh v (.slice (some ⟨g,0,none⟩) v.ss.length v.ss.length) (.slice (some ⟨k,0,none⟩) v.A.length v.A.length) (.slice (some ⟨g3,0,none⟩) v.ks.length v.ks.length) (.slice (some ⟨q3,0,none⟩) v.ps.length v.ps.length) (.slice (some ⟨r3,0,none⟩) v.ls.length v.ls.length) (.slice (some ⟨g5,0,none⟩) v.F.length v.F.length) (.slice (some ⟨k5,0,none⟩) v.ms.length v.ms.length)/\AD X lo (.slice (some ⟨g,0,none⟩) v.ss.length v.ss.length) (.slice (some ⟨k,0,none⟩) v.A.length v.A.length) (.slice (some ⟨g3,0,none⟩) v.ks.length v.ks.length) (.slice (some ⟨q3,0,none⟩) v.ps.length v.ps.length) (.slice (some ⟨r3,0,none⟩) v.ls.length v.ls.length) (.slice (some ⟨g5,0,none⟩) v.F.length v.F.length) (.slice (some ⟨k5,0,none⟩) v.ms.length v.ms.length) rs v/\(∀b∈CK (.slice (some ⟨g,0,none⟩) v.ss.length v.ss.length) (.slice (some ⟨k,0,none⟩) v.A.length v.A.length) (.slice (some ⟨g3,0,none⟩) v.ks.length v.ks.length) (.slice (some ⟨q3,0,none⟩) v.ps.length v.ps.length) (.slice (some ⟨r3,0,none⟩) v.ls.length v.ls.length) (.slice (some ⟨g5,0,none⟩) v.F.length v.F.length) (.slice (some ⟨k5,0,none⟩) v.ms.length v.ms.length) rs,b<N)/\∀x∈rs,∃q n c,x=.slice (some ⟨q,0,none⟩) n c
theorem AY.gm{X:Zh}{lo g c:Nat}{P L:Value}{b:Zj}{f:List Kd}{A:List Pd}{z:List Ld}(h:AY X lo (.slice (some ⟨g,0,none⟩) f.length c) P L b f A z)(v:∀x∈b,∃q n c,x=.slice (some ⟨q,0,none⟩) n c):DR X ⟨g,0,none⟩ f:=fun i k j=>by
 have u:=(Zw j).1;have m:i<b.length:=by rw[h.len];exact u
 have o:=Zv m;obtain⟨q,n,d,e⟩:=v _ (List.getElem_mem m);have r:=(h.B i k _ j o);obtain⟨a,B,l⟩:=Ax r;have y:(f.zip b)[i]?=some (k,b[i]):=List.getElem?_zip_eq_some.2 ⟨j,o⟩;have s:=Cd Ce y (show 3<4 by decide);have t:=h.aj.cellAt (i *4+3) Yv;rw[e]at l;injection l with e1 e2 e3;refine⟨⟨q,0,none⟩,d,?_⟩;rw[Nat.zero_add,t,s,<-e2,<-e];rfl
theorem WA.ft(h:WA v lo N X e):WX v X.heap.size X e:=by obtain⟨_,g,k,f,n,o,i,m,u,rfl,a,_,j⟩:=h;obtain⟨x,y,s,t,q,r,b,c,d,l⟩:=a.N.rows;injection b with b;injection c with c;injection d with d;subst b c d;exact⟨g,k,f,n,o,i,m,rfl,⟨a.s.ft,a.u.ft,l,a.q.ft,a.m.ft⟩,a.N.gm j⟩
def VI(t:Zi)(refs ss:Zl)(lo N:Nat)(X:Zh)(cs:Zj):Prop:=
 (N<=X.heap.size/\lo<=X.heap.size)/\ss.length=refs.length/\∃ra rc,cs=[.string t,.slice ra refs.length rc]/\EI X lo ra ss/\(refs≠[]->∀b,VH ra=some b->b<N)
theorem VI.af{t:Zi}{a j:Zl}(h:VI t a j lo N X e)(d:X.heap.size<=c.heap.size)(m:∀q,lo<=q->q<N->c.heap[q]?=X.heap[q]?):VI t a j lo N c e:=by
 obtain⟨g,i,o,r,rfl,k,f⟩:=h;refine⟨⟨Zm g.1 d,Zm g.2 d⟩,i,o,r,rfl,?_,f⟩;by_cases hne:a=[]
 .exact .inl (List.eq_nil_of_length_eq_zero (by rw[i,hne];rfl))
 .exact k.stays d (fun b l n _=>m b n (f hne b l))
section
attribute [local go_sem↓] Go.wp_at_zero Go.wp_at_succ
end
section
open Classical in
end
end Go.Proofs.YtmjlkgpekcnacaaGreat
