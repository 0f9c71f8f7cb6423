import Derived.Test.YtoglnpagihdhpaaGreatDoorX03
import Derived.Orders
set_option maxRecDepth 100000
set_option maxHeartbeats 16000000
namespace Go.Proofs.YtoglnpagihdhpaaGreatDoor
open ChangeShapes WideShapes ChangeAt RowKit _root_.Go.Proofs.Tryz
variable{b c:Array Oper}{a:Act}{i id last:Nat}{P:Program}{w:Zh}
theorem LO(t u:Zi)(a b:Zk)(c d:Nat)(f g:Zl)(w:Zh)(s:Ad w w.heap.size a f)(r:Ad w w.heap.size b g)(hl:f.length<=100000)(zB:g.length<=1048576):
 Calls prog 165 #[.agg #[.string t,.slice a f.length c],.agg #[.string u,.slice b g.length d]] w fun e w'=>Aq (t=u/\f=g) w w' e:=by
 obtain⟨W,v⟩:=Af ((w.alloc (.cells #[.string t,.slice a f.length c] 36)).alloc (.cells #[.string u,.slice b g.length d] 36));have C:=(Bb v).1;have m:=(Bb v).2.2.1;have n:Aa W (w.heap.size+1) [.string u,.slice b g.length d]:=by have D:=Aa.new (w.alloc (.cells #[.string t,.slice a f.length c] 36)) [.string u,.slice b g.length d] 36;rw[World.size_alloc]at D;rw[v];exact D
 have HX:Hid (∀X,Zz W X->Aa X w.heap.size [.string t,.slice a f.length c]/\Aa X (w.heap.size+1) [.string u,.slice b g.length d]/\Ad X w.heap.size a f/\Ad X w.heap.size b g/\Zz w X):=fun X I=>by have z:=C.trans (I.mono C.size);exact⟨Aa.below m I,Aa.below n I,s.below z,r.below z,z⟩
 obtain⟨y0,K⟩:=Aa.c2 m 0 1;obtain⟨z0,L⟩:=Aa.c2 n 0 1;have B:=Yw v;clear v s r m n;by_cases ht:t=u
 .subst ht;have G:(t.toList !=t.toList)=false:=Yu
  by_cases hlen:f.length=g.length
  .have R:((f.length:Int) !=(g.length:Int))=false:=Yt
   have o:=Yw hlen;clear hlen;go_enter func165,ntmps165;go_upto_region 1 with fail;rw[<-B.o];clear B;go_wp2
   go_loopw [5] (fun i wr=>∃k:Nat,k<=f.length/\i=Zg k/\Hid (f.take k=g.take k/\Zz W wr)) (fun i _=>f.length -(intOf i).toNat)
   case atStart=>exact⟨0,Nat.zero_le _,rfl,⟨Yu,Ae⟩⟩
   case round=>
    clear y0 K z0 L;obtain⟨k,hk,rfl,A⟩:=hrel;obtain⟨m,n,s,r,l⟩:=HX.o wr A.o.2;obtain⟨K,_⟩:=m 1 _ rfl;obtain⟨L,_⟩:=n 1 _ rfl;by_cases hlt:k<f.length
    .have j:k<g.length:=by have:=o.o;omega
     obtain⟨rb,ro,ha,U,F⟩:=s.at hlt;obtain⟨qb,qo,z,T,E⟩:=r.at j;subst ha z;have c0:=F k _ (Zv hlt);have d0:=E k _ (Zv j);have zE:=Zr U l.size;have zC:=Zr T l.size;have P:=Yw (Zu hlt);have Q:=Yw (Zu j);have HN:Hid (∀x y,f[k]?=some x->g[k]?=some y->x≠y->f≠g):=fun x y D J S e=>by subst e;rw[D]at J;exact S (Option.some.inj J)
     have N:=Yw (Zv hlt);have O:=Yw (Zv j);have zA:(k:Int)<g.length:=Yv
     clear F E;generalize f[k]=x at *
     generalize g[k]=y at *
     have HB:=Yw A.o.2;have M:=Yw l;clear m n s r l;by_cases hxy:x=y
     .subst hxy;have H:(x.toList !=x.toList)=false:=Yu
      go_wp2
      go_region
      all_goals go_wp2
      all_goals exact⟨⟨k+1,Yv,Yn,⟨by rw[P.o,Q.o,A.o.1],HB.o.drew⟩⟩,Ys⟩
     .have H:=Bz hxy;have Z:(x.toList !=y.toList)=true:=by simp[bne,H]
      go_wp2
      go_region
      all_goals go_wp2
      all_goals go_ret
      all_goals exact Aq.no (fun h=>HN.o x y N.o O.o hxy h.2) M.o.drew
    .obtain rfl:k=f.length:=Yv
     have q:=A.o.1;rw[Zt (Zx),Zt (by have:=o.o;omega)]at q;clear m n s r;go_wp2;go_ret;exact Aq.yes ⟨by trivial,q⟩ l
  .have R:((f.length:Int)==(g.length:Int))=false:=Yt
   have V:((f.length:Int) !=(g.length:Int))=true:=Yt
   go_enter func165,ntmps165;go_upto_region 1 with fail;rw[<-B.o];go_wp2;go_ret;exact Aq.no (fun h=>hlen (by rw[h.2])) C
 .have G:=Bz ht;have Y:(t.toList !=u.toList)=true:=by simp[bne,G]
  go_enter func165,ntmps165;go_upto_region 1 with fail;rw[<-B.o];go_wp2;go_ret;exact Aq.no (fun h=>ht h.1) C
section
attribute [local go_sem↓] Go.wp_at_zero Go.wp_at_succ
theorem LP(V now j d J s c b:Int)(a p l a' p' l':Zk)(ac pc lc zC zH zG:Nat)(z o:List Kd)(C r:List Pd)(B q:List Ld)(w:Zh)(H:Bt w w.heap.size a p l z C B)(G:Bt w w.heap.size a' p' l' o r q)(hl:z.length<=100000/\C.length<=100000/\B.length<=100000)(yI:o.length<=1048576/\r.length<=1048576/\q.length<=1048576)(P:∀k∈z,k.B.length<=100000)(Q:∀k∈o,k.B.length<=1048576):
 Calls prog 147 #[.agg (Yg V now j d a z.length ac p C.length pc l B.length lc),.agg (Yg J s c b a' o.length zC p' r.length zH l' q.length zG)] w fun e w'=>Aq ((V=J/\now=s/\j=c/\d=b)/\z=o/\C=r/\B=q) w w' e:=by
 obtain⟨W,hW⟩:=Af ((w.alloc (.cells (Yg V now j d a z.length ac p C.length pc l B.length lc) 30)).alloc (.cells (Yg J s c b a' o.length zC p' r.length zH l' q.length zG) 30));have R:=(Bb hW).1;have t:=(Bb hW).2.2.1;have u:Aa W (w.heap.size+1) (Yh J s c b a' o.length zC p' r.length zH l' q.length zG):=by have P:=Aa.new (w.alloc (.cells (Yg V now j d a z.length ac p C.length pc l B.length lc) 30)) (Yh J s c b a' o.length zC p' r.length zH l' q.length zG) 30;rw[World.size_alloc]at P;rw[hW];exact P
 have HX:Hid (∀X,Zz W X->Aa X w.heap.size (Yh V now j d a z.length ac p C.length pc l B.length lc)/\Aa X (w.heap.size+1) (Yh J s c b a' o.length zC p' r.length zH l' q.length zG)/\Bt X w.heap.size a p l z C B/\Bt X w.heap.size a' p' l' o r q/\Zz w X):=fun X hX=>by have A:=R.trans (hX.mono R.size);exact⟨Aa.below t hX,Aa.below u hX,H.ag A,G.ag A,A⟩
 have zW:=(Bb hW).2.1;obtain⟨zV,_⟩:=t 0 _ rfl;obtain⟨yC,_⟩:=u 0 _ rfl;obtain⟨zX,_⟩:=t 1 _ rfl;obtain⟨yD,_⟩:=u 1 _ rfl;obtain⟨zY,_⟩:=t 2 _ rfl;obtain⟨yE,_⟩:=u 2 _ rfl;obtain⟨zZ,_⟩:=t 3 _ rfl;obtain⟨yF,_⟩:=u 3 _ rfl;obtain⟨K,_⟩:=t 4 _ rfl;obtain⟨L,_⟩:=u 4 _ rfl;obtain⟨yA,_⟩:=t 5 _ rfl;obtain⟨yG,_⟩:=u 5 _ rfl;obtain⟨yB,_⟩:=t 6 _ rfl;obtain⟨yH,_⟩:=u 6 _ rfl;have D:=Yw hW;clear hW H G t u
 by_cases e0:V=J
 .have b0:(V !=J)=false:=by simp[e0]
  have E0:=Yw e0;clear e0;by_cases e1:now=s
  .have b1:(now !=s)=false:=by simp[e1]
   have E1:=Yw e1;clear e1;by_cases e2:j=c
   .have b2:(j !=c)=false:=by simp[e2]
    have E2:=Yw e2;clear e2;by_cases e3:d=b
    .have b3:(d !=b)=false:=by simp[e3]
     have E3:=Yw e3;clear e3;by_cases e4:z.length=o.length
     .have b4:((z.length:Int) !=(o.length:Int))=false:=by simp[e4]
      have E4:=Yw e4;clear e4;by_cases e5:C.length=r.length
      .have b5:((C.length:Int) !=(r.length:Int))=false:=by simp[e5]
       have E5:=Yw e5;clear e5;by_cases e6:B.length=q.length
       .have b6:((B.length:Int) !=(q.length:Int))=false:=by simp[e6]
        have E6:=Yw e6;clear e6;go_enter func147,ntmps147;go_upto_region 1 with fail;rw[<-D.o];clear D;go_wp2;clear b0 b1 b2 b3 b4 b5 b6
        go_loopw [5] (fun i wr=>∃k:Nat,k<=z.length/\i=Zg k/\Hid (z.take k=o.take k/\Zz W wr)) (fun i _=>z.length -(intOf i).toNat)
        case atStart=>exact⟨0,Nat.zero_le _,rfl,⟨Yu,Ae⟩⟩
        case round=>
         clear zV yC zX yD zY yE zZ yF K L yA yG yB yH;obtain⟨k,hk,rfl,v⟩:=hrel;obtain⟨t,u,H,G,g⟩:=HX.o wr v.o.2;have zR:=v.o.2.size;obtain⟨K,_⟩:=t 4 _ rfl;obtain⟨L,_⟩:=u 4 _ rfl;by_cases hlt:k<z.length
         .have f:k<o.length:=by have:=E4.o;omega
          obtain⟨rb,ro,ha,zF,O⟩:=H.k.at hlt;obtain⟨qb,qo,A,zE,N⟩:=G.k.at f;subst ha A;obtain⟨c0,c1,c2,ra,rc,c3,zP⟩:=O k _ (Zv hlt);obtain⟨d0,d1,d2,sa,sc,d3,zO⟩:=N k _ (Zv f);have T:=Zr zF g.size;have S:=Zr zE g.size;have zA:=Yw (Zu hlt);have zB:=Yw (Zu f);have HN:Hid (∀x y,z[k]?=some x->o[k]?=some y->x≠y->z≠o):=fun x y P Q U e=>by subst e;rw[P]at Q;exact U (Option.some.inj Q)
          have E:=Yw (Zv hlt);have F:=Yw (Zv f);have zN:(k:Int)<o.length:=Yv
          have m1:=P _ (List.getElem_mem hlt);have m2:=Q _ (List.getElem_mem f);clear O N;generalize z[k]=x at *
          generalize o[k]=y at *
          have HB:=Yw v.o.2;have HC:Hid (∀n:Aw wr,Calls prog 165 #[.agg #[.string x.J,.slice ra x.B.length rc],.agg #[.string y.J,.slice sa y.B.length sc]] n.w fun e w'=>e=.returned (.bool (decide (x.J=y.J/\x.B=y.B)))/\Below n.w.heap.size n.w w'):=fun n=>by
           have zM:=g.trans (n.h.mono g.size);refine(LO x.J y.J ra sa rc sc x.B y.B n.w ((zP.below (n.h.mono g.size)).mono zM.size) ((zO.below (n.h.mono g.size)).mono zM.size) m1 m2).mono ?_;rintro e w' ⟨bb,rfl,zK,zJ⟩;refine⟨?_,zJ⟩;by_cases hP:x.J=y.J/\x.B=y.B
           .rw[zK.2 hP,decide_eq_true hP]
           .cases bb with
            |true=>exact absurd (zK.1 rfl) hP
            |false=>rw[decide_eq_false hP]
          have q1:=Aw.cell K Yv;have q2:=Aw.cell L Yv;have r0:=Aw.cell c0 T;have s0:=Aw.cell d0 S;have r1:=Aw.cell c1 T;have s1:=Aw.cell d1 S;have r2:=Aw.cell c2 T;have s2:=Aw.cell d2 S;have r3:=Aw.cell c3 T;have s3:=Aw.cell d3 S;have U:=Aw.ne wr;have HE:Hid (∀n:Aw wr,Zz W n.w):=fun n=>HB.o.trans (n.h.mono HB.o.size);clear t u H G zP zO g;by_cases hs:x.sum=y.sum
          .have zT:(x.sum.toList !=y.sum.toList)=false:=by rw[hs];simp
           have zU:(x.sum.toList==y.sum.toList)=true:=by rw[hs];simp
           by_cases A:x.born=y.born
           .have zJ:(x.born !=y.born)=false:=by simp[A]
            have zS:(x.born==y.born)=true:=by simp[A]
            by_cases hP:x.J=y.J/\x.B=y.B
            .rw[decide_eq_true hP]at HC;have M:Hid (x=y):=by obtain⟨e1,e2⟩:=hP;show x=y;cases x;cases y;simp_all
             clear hP hs A;go_wp2;refine Ax Yr Yr ?_
             repeat (go_big_quiet_step (exact Aw.calls (HC.o _)))
             refine wpQuiet_nil ?_;intro n;clear q1 q2 r0 r1 r2 r3 s0 s1 s2 s3 K L c0 c1 c2 c3 d0 d1 d2 d3;go_wp2;exact⟨⟨k+1,Yv,Yn,⟨by rw[zA.o,zB.o,v.o.1,M.o],HE.o n⟩⟩,Ys⟩
            .rw[decide_eq_false hP]at HC;have Z:=Yw hP;clear hP hs A;go_wp2;refine Ax Yr Yr ?_
             repeat (go_big_quiet_step (exact Aw.calls (HC.o _)))
             refine wpQuiet_nil ?_;intro n;have Y:=Yw ((HX.o _ (HE.o n)).2.2.2.2);clear q1 q2 r0 r1 r2 r3 s0 s1 s2 s3 K L c0 c1 c2 c3 d0 d1 d2 d3;go_wp2;go_ret;exact Aq.no (fun h=>HN.o x y E.o F.o (fun e=>Z.o (by rw[e];exact⟨rfl,rfl⟩)) h.2.1) Y.o
           .have zJ:(x.born !=y.born)=true:=by simp[A]
            have zS:(x.born==y.born)=false:=by simp[A]
            have Z:=Yw A;clear A hs;go_wp2;refine Ax Yr Yr ?_
            repeat (go_big_quiet_step (exact Aw.calls (HC.o _)))
            refine wpQuiet_nil ?_;intro n;have Y:=Yw ((HX.o _ (HE.o n)).2.2.2.2);clear q1 q2 r0 r1 r2 r3 s0 s1 s2 s3 K L c0 c1 c2 c3 d0 d1 d2 d3;go_wp2;go_ret;exact Aq.no (fun h=>HN.o x y E.o F.o (fun e=>Z.o (by rw[e])) h.2.1) Y.o
          .have zT:(x.sum.toList !=y.sum.toList)=true:=by simp[bne,Bz hs]
           have zU:=Bz hs;have Z:=Yw hs;clear hs;go_wp2;refine Ax Yr Yr ?_
           repeat (go_big_quiet_step (exact Aw.calls (HC.o _)))
           refine wpQuiet_nil ?_;intro n;have Y:=Yw ((HX.o _ (HE.o n)).2.2.2.2);clear q1 q2 r0 r1 r2 r3 s0 s1 s2 s3 K L c0 c1 c2 c3 d0 d1 d2 d3;go_wp2;go_ret;exact Aq.no (fun h=>HN.o x y E.o F.o (fun e=>Z.o (by rw[e])) h.2.1) Y.o
         .obtain rfl:k=z.length:=Yv
          have m:=v.o.1;rw[Zt (Zx),Zt (by have:=E4.o;omega)]at m;have HK:=Yw m;have zI:=Yw v.o.2;clear m t u H G g;go_wp2
          go_loopw [6] (fun i wr=>∃k:Nat,k<=C.length/\i=Zg k/\Hid (C.take k=r.take k/\Zz W wr)) (fun i _=>C.length -(intOf i).toNat)
          case atStart=>exact⟨0,Nat.zero_le _,rfl,⟨Yu,zI.o⟩⟩
          case round=>
           obtain⟨k,hk,rfl,v⟩:=hrel;obtain⟨t,u,H,G,g⟩:=HX.o wr v.o.2;have zR:=v.o.2.size;obtain⟨K,_⟩:=t 5 _ rfl;obtain⟨L,_⟩:=u 5 _ rfl;by_cases hlt:k<C.length
           .have f:k<r.length:=by have:=E5.o;omega
            obtain⟨rb,ro,ha,zF,O⟩:=H.p.at hlt;obtain⟨qb,qo,A,zE,N⟩:=G.p.at f;subst ha A;obtain⟨c0,c1⟩:=O k _ (Zv hlt);obtain⟨d0,d1⟩:=N k _ (Zv f);have T:=Zr zF g.size;have S:=Zr zE g.size;have zA:=Yw (Zu hlt);have zB:=Yw (Zu f);have HN:Hid (∀x y,C[k]?=some x->r[k]?=some y->x≠y->C≠r):=fun x y P Q U e=>by subst e;rw[P]at Q;exact U (Option.some.inj Q)
            have E:=Yw (Zv hlt);have F:=Yw (Zv f);have zN:(k:Int)<r.length:=Yv
            clear O N;generalize C[k]=x at *
            generalize r[k]=y at *
            have HB:=Yw v.o.2;have I:=Yw g;clear t u H G g;by_cases hxy:x=y
            .subst hxy;go_wp2
             go_region
             all_goals go_wp2
             all_goals exact⟨⟨k+1,Yv,Yn,⟨by rw[zA.o,zB.o,v.o.1],HB.o.drew⟩⟩,Ys⟩
            .have M:=Yw hxy;by_cases n0:x.name=y.name
             .have k0:x.name.toList=y.name.toList:=by rw[n0]
              have n1:¬x.sum=y.sum:=fun e=>hxy (by
               cases x;cases y;simp_all)
              have k1:¬x.sum.toList=y.sum.toList:=fun e=>n1 (FW e);clear hxy n0 n1;go_wp2
              go_region
              all_goals go_wp2
              all_goals go_ret
              all_goals exact Aq.no (fun h=>HN.o x y E.o F.o M.o h.2.2.1) I.o.drew
             .have k0:¬x.name.toList=y.name.toList:=fun e=>n0 (FW e);clear n0 hxy;go_wp2
              go_region
              all_goals go_wp2
              all_goals go_ret
              all_goals exact Aq.no (fun h=>HN.o x y E.o F.o M.o h.2.2.1) I.o.drew
           .obtain rfl:k=C.length:=Yv
            have m:=v.o.1;rw[Zt (Zx),Zt (by have:=E5.o;omega)]at m;have HP:=Yw m;have zI:=Yw v.o.2;have I:=Yw g;clear m t u H G g;go_wp2
            go_loopw [7] (fun i wr=>∃k:Nat,k<=B.length/\i=Zg k/\Hid (B.take k=q.take k/\Zz W wr)) (fun i _=>B.length -(intOf i).toNat)
            case atStart=>exact⟨0,Nat.zero_le _,rfl,⟨Yu,zI.o⟩⟩
            case round=>
             obtain⟨k,hk,rfl,v⟩:=hrel;obtain⟨t,u,H,G,g⟩:=HX.o wr v.o.2;have zR:=v.o.2.size;obtain⟨K,_⟩:=t 6 _ rfl;obtain⟨L,_⟩:=u 6 _ rfl;by_cases hlt:k<B.length
             .have f:k<q.length:=by have:=E6.o;omega
              obtain⟨rb,ro,ha,zF,O⟩:=H.l.at hlt;obtain⟨qb,qo,A,zE,N⟩:=G.l.at f;subst ha A;obtain⟨c0,c1,c2⟩:=O k _ (Zv hlt);obtain⟨d0,d1,d2⟩:=N k _ (Zv f);have T:=Zr zF g.size;have S:=Zr zE g.size;have zA:=Yw (Zu hlt);have zB:=Yw (Zu f);have HN:Hid (∀x y,B[k]?=some x->q[k]?=some y->x≠y->B≠q):=fun x y P Q U e=>by subst e;rw[P]at Q;exact U (Option.some.inj Q)
              have E:=Yw (Zv hlt);have F:=Yw (Zv f);have zN:(k:Int)<q.length:=Yv
              clear O N;generalize B[k]=x at *
              generalize q[k]=y at *
              have HB:=Yw v.o.2;have I:=Yw g;clear t u H G g;by_cases hxy:x=y
              .subst hxy;go_wp2
               go_region
               all_goals go_wp2
               all_goals exact⟨⟨k+1,Yv,Yn,⟨by rw[zA.o,zB.o,v.o.1],HB.o.drew⟩⟩,Ys⟩
              .have M:=Yw hxy;by_cases n0:x.H=y.H
               .have k0:=n0;by_cases n1:x.sum=y.sum
                .have k1:x.sum.toList=y.sum.toList:=by rw[n1]
                 have n2:¬x.R=y.R:=fun e=>hxy (by
                  cases x;cases y;simp_all)
                 clear hxy n1;go_wp2
                 go_region
                 all_goals go_wp2
                 all_goals go_ret
                 all_goals exact Aq.no (fun h=>HN.o x y E.o F.o M.o h.2.2.2) I.o.drew
                .have k1:¬x.sum.toList=y.sum.toList:=fun e=>n1 (FW e);clear n1 hxy;go_wp2
                 go_region
                 all_goals go_wp2
                 all_goals go_ret
                 all_goals exact Aq.no (fun h=>HN.o x y E.o F.o M.o h.2.2.2) I.o.drew
               .clear hxy;go_wp2
                go_region
                all_goals go_wp2
                all_goals go_ret
                all_goals exact Aq.no (fun h=>HN.o x y E.o F.o M.o h.2.2.2) I.o.drew
             .obtain rfl:k=B.length:=Yv
              have m:=v.o.1;rw[Zt (Zx),Zt (by have:=E6.o;omega)]at m;have HL:=Yw m;have zI:=Yw v.o.2;have I:=Yw g;clear m t u H G g;go_wp2;go_ret;exact Aq.yes ⟨⟨E0.o,E1.o,E2.o,E3.o⟩,HK.o,HP.o,HL.o⟩ I.o
       .have b6:=bne_iff_ne.2 Yv;go_enter func147,ntmps147;go_upto_region 1 with fail;rw[<-D.o];clear D;go_wp2;go_ret;exact Aq.no (fun h=>e6 (by rw[h.2.2.2])) R
      .have b5:=bne_iff_ne.2 Yv;go_enter func147,ntmps147;go_upto_region 1 with fail;rw[<-D.o];clear D;go_wp2;go_ret;exact Aq.no (fun h=>e5 (by rw[h.2.2.1])) R
     .have b4:=bne_iff_ne.2 Yv;go_enter func147,ntmps147;go_upto_region 1 with fail;rw[<-D.o];clear D;go_wp2;go_ret;exact Aq.no (fun h=>e4 (by rw[h.2.1])) R
    .have b3:(d !=b)=true:=by simp[e3]
     go_enter func147,ntmps147;go_upto_region 1 with fail;rw[<-D.o];clear D;go_wp2;go_ret;exact Aq.no (fun h=>e3 h.1.2.2.2) R
   .have b2:(j !=c)=true:=by simp[e2]
    go_enter func147,ntmps147;go_upto_region 1 with fail;rw[<-D.o];clear D;go_wp2;go_ret;exact Aq.no (fun h=>e2 h.1.2.2.1) R
  .have b1:(now !=s)=true:=by simp[e1]
   go_enter func147,ntmps147;go_upto_region 1 with fail;rw[<-D.o];clear D;go_wp2;go_ret;exact Aq.no (fun h=>e1 h.1.2.1) R
 .have b0:(V !=J)=true:=by simp[e0]
  go_enter func147,ntmps147;go_upto_region 1 with fail;rw[<-D.o];clear D;go_wp2;go_ret;exact Aq.no (fun h=>e0 h.1.1) R
end
structure Ji (ks:List Kd) (ps:List Pd) (ls:List Ld):Prop where
 k:Rk ks
 p:Rl ps
 l:Rm ls
 b:∀k∈ks,(Lit.int .i64 k.born).wf=true
 n:ks.length<=600/\ps.length<=100/\ls.length<=200
def OV(k:Kd):Prop:=k.J.size<=2000/\k.B.length<=30/\∀s∈k.B,s.size<=8
def Eu(L:Nat->Bool)(i:Nat):Nat->Bool:=fun j=>if j=i then true else L j
theorem JH{k:Region.Mode}{a:Array Bool}:i∈Region.ready k b a↔i<b.size/\a.getD i true=false/\∃o,b[i]?=some o/\∀e∈o.after,Region.binds k e=true->a.getD e.on false=true:=by
 unfold Region.ready;rw[List.mem_filter,List.mem_range];constructor
 .rintro⟨f,c⟩;rw[Bool.and_eq_true,Bool.not_eq_true']at c;have g:b[i]?=some b[i]:=Array.getElem?_eq_getElem f;refine⟨f,c.1,_,g,fun e j h=> ?_⟩;have d:=c.2;rw[g]at d;simp only[Option.map_some,Option.getD_some,Array.all_eq_true_iff_forall_mem]at d;have l:=d e j;rw[h]at l;simpa using l
 .rintro⟨f,c,o,g,d⟩;refine⟨f,?_⟩;rw[c,g];simp only[Option.map_some,Option.getD_some,Bool.not_false,Bool.true_and,Array.all_eq_true_iff_forall_mem];intro e j;cases h:Region.binds k e with
  |false=>rfl
  |true=>simpa using d e j h
theorem QO:∀(l:List Bool) (i:Nat),l[i]?=some false->((l.set i true).filter (! ·)).length+1=(l.filter (! ·)).length
 |[],i,h=>by simp at h
 |x::l,0,h=>by simp at h;simp[h]
 |x::l,i+1,h=>by have:=QO l i (by simpa using h);cases x<;>simp at this |-<;>omega
theorem WY{Q:Exit->Act->Zh->Prop}(I:(Nat->Bool)->Act->Zh->Prop)(E:∀L a w i o,I L a w->c[i]?=some o->L i=false->(∀e∈o.after,Region.binds .any e=true->L e.on=true)->wpOp P c Q i (I (Eu L i)) a w)(x:∀L a w,I L a w->(∀i,i<c.size->L i=true)->Q .normal a w)(A:∀i o,c[i]?=some o->∀e∈o.after,Region.binds .any e=true->e.on<i):
 ∀(d:Nat) (b:Array Bool) (a:Act) (w:Zh),b.size=c.size->(b.toList.filter (! ·)).length<=d->I (fun j=>b.getD j false) a w->wpAny P .any c Q d b a w:=by
 have t:∀b:Array Bool,b.size=c.size->Region.ready .any c b=[]->∀i,i<c.size->b.getD i false=true:=by
  intro b s u i;induction i using Nat.strongRecOn with
  |_ i ih=>
   intro r;cases hv:b.getD i false with
   |true=>rfl
   |false=>
    have l:i∈Region.ready .any c b:=by
     refine JH.2 ⟨r,?_,_,Array.getElem?_eq_getElem r,fun e D B=> ?_⟩
     .rw[Array.getD_eq_getD_getElem?,Array.getElem?_eq_getElem Yv]at hv |-;simpa using hv
     .have n:=A i _ (Array.getElem?_eq_getElem r) e D B;exact ih e.on n Yv
    rw[u]at l;cases l
 intro d;induction d with
 |zero=>
  intro b a w s C q;have n:∀i,i<c.size->b.getD i false=true:=by
   intro i r;cases hv:b.getD i false with
   |true=>rfl
   |false=>exfalso;have m:(b.toList.filter (! ·))=[]:=List.eq_nil_of_length_eq_zero Yv;rw[List.filter_eq_nil_iff]at m;rw[Array.getD_eq_getD_getElem?,Array.getElem?_eq_getElem Yv]at hv;have:=m (b[i]'(by omega)) Yu;simp at hv;simp[hv]at this
  refine⟨?_,x _ a w q n⟩;rw[List.eq_nil_iff_forall_not_mem];intro i l;obtain⟨m,f,_⟩:=JH.1 l;have g:=n i m;rw[Array.getD_eq_getD_getElem?,Array.getElem?_eq_getElem Yv]at f g;simp at f g;rw[f]at g;cases g
 |succ d ih=>
  intro b a w s C q;refine⟨fun u=>x _ a w q (t b s u),fun i l=> ?_⟩;obtain⟨m,f,o,g,z⟩:=JH.1 l;have k:i<b.size:=Yv
  have v:b[i]=false:=by rw[Array.getD_eq_getD_getElem?,Array.getElem?_eq_getElem k]at f;simpa using f
  refine wpOp_mono (fun y F h=>ih _ y F (by simpa using s) ?_ ?_) (E _ a w i o q g ?_ z)
  .have G:((b.setIfInBounds i true).toList.filter (! ·)).length+1=(b.toList.filter (! ·)).length:=by rw[Array.toList_setIfInBounds];exact QO _ i (by rw[Array.getElem?_toList,Array.getElem?_eq_getElem k,v])
   omega
  .have e:(fun j=>(b.setIfInBounds i true).getD j false)=Eu (fun j=>b.getD j false) i:=by
    funext j
    unfold Eu;by_cases hj:j=i
    .subst hj;simp[k]
    .simp[hj,Array.getD_eq_getD_getElem?,Array.getElem?_setIfInBounds_ne (Ne.symm hj)]
   rw[e];exact h
  .show b.getD i false=false;rw[Array.getD_eq_getD_getElem?,Array.getElem?_eq_getElem k];simpa using v
theorem RK{Q:Exit->Act->Zh->Prop}{k:Nat}(g:P.follows .mixedOrders=true)(I:(Nat->Bool)->Act->Zh->Prop)(d:∀i o,b[i]?=some o->∀e∈o.after,Region.binds .any e=true->e.on<i)(c:I (fun _=>false) a w.drew)(h:∀L a w i o,I L a w->b[i]?=some o->L i=false->(∀e∈o.after,Region.binds .any e=true->L e.on=true)->wpOp P b Q i (I (Eu L i)) a w)(f:∀L a w,I L a w->(∀i,i<b.size->L i=true)->Q .normal a w):(Code.region k b true).wp P Q a w:=by
 refine wp_region_any g (WY I h f d b.size _ a _ Yu Yu ?_);have e:(fun j=>(Array.replicate b.size false).getD j false)=fun _=>false:=by
  funext j
  rw[Array.getD_eq_getD_getElem?];by_cases hj:j<b.size
  .simp[hj]
  .simp[hj]
 rw[e];exact c
theorem OW(L:Nat->Bool)(i:Nat):∀n,i<n->L i=false->((List.range n).filter (Eu L i)).length=((List.range n).filter L).length+1
 |0,h,_=>absurd h (Nat.not_lt_zero _)
 |n+1,h,hL=>by
  rw[List.range_succ,List.filter_append,List.filter_append,List.length_append,List.length_append];by_cases hn:i=n
  .subst hn;have a:(List.range i).filter (Eu L i)=(List.range i).filter L:=List.filter_congr (fun x c=>by have:=List.mem_range.1 c;unfold Eu;rw[if_neg Yv]);rw[a];simp[Eu,hL]
  .have a:=OW L i n Yv hL;have b:Eu L i n=L n:=by unfold Eu;rw[if_neg (Ne.symm hn)]
   rw[a];simp only[List.filter_cons,b,List.filter_nil];omega
def Iw(ops:Array Oper):Bool:=(List.range ops.size).all fun i=>((ops[i]?).map (·.after.all fun e=>decide (e.on<i))).getD true
theorem KJ{a:Array Oper}(h:Iw a=true):∀i o,a[i]?=some o->∀e∈o.after,Region.binds .any e=true->e.on<i:=by intro i o c e d _;unfold Iw at h;rw[List.all_eq_true]at h;have b:=h i (List.mem_range.2 (Array.getElem?_eq_some_iff.1 c).1);rw[c]at b;simp only[Option.map_some,Option.getD_some,Array.all_eq_true_iff_forall_mem]at b;simpa using b e d
def Ig(ops:Array Oper)(i j:Nat):Bool:=((ops[i]?).map (·.after.any fun e=>e.on==j&&Region.binds .any e)).getD false
theorem Hv{a:Array Oper}{j:Nat}{o:Oper}(d:a[i]?=some o)(h:Ig a i j=true):∃e∈o.after,e.on=j/\Region.binds .any e=true:=by unfold Ig at h;rw[d]at h;simp only[Option.map_some,Option.getD_some,Array.any_eq_true']at h;obtain⟨e,c,b⟩:=h;rw[Bool.and_eq_true]at b;exact⟨e,c,eq_of_beq b.1,b.2⟩
def OY(ops:Array Oper)(last:Nat):Bool:=(List.range last).all fun i=>Ig ops last i||(List.range last).any fun m=>Ig ops last m&&Ig ops m i
def MD(e:Edge):Bool:=match e.ground with
 |.data=>Region.binds .any e
 |_=>false
theorem LQ{e:Edge}(h:MD e=true):Region.binds .any e=true:=by
 unfold MD at h;split at h
 .exact h
 .cases h
def ZE(ops:Array Oper)(last:Nat)(kl:List (Nat×Nat)):Bool:=kl.all fun p=>(List.range last).all fun m=>m==p.1||(p.1<last&&Ig ops p.1 m)||((ops[m]?).map (·.after.all fun e=>e.on !=p.2|| !MD e)).getD true
theorem Jj{Q:Exit->Act->Zh->Prop}(last:Nat)(Z:P.follows .mixedOrders=true)(zG:b.size=last+1)(ha:Iw b=true)(Y:OY b last=true)(A:List (Nat×Nat))(M:ZE b last A=true)(F:(Nat->Value)->Act)(S:Nat->Value)(J:(Nat->Bool)->Zh->Prop)(T:Nat->Zh->Value->Prop)(E:Nat->Zh->Zh->Prop)(hE:∀j i w r v,j≠i->(j,i)∉A->Ig b i j=false->E j w r->T i w v->T i r v)(hF:∀i o d v,i<last->b[i]?=some o->(F d).put o.dst v=F (fun j=>if j=i then v else d j))(h0:J (fun _=>false) w.drew)(hs:∀i o L d w,i<last->b[i]?=some o->L i=false->(∀e∈o.after,Region.binds .any e=true->L e.on=true)->J L w->(∀e∈o.after,MD e=true->T e.on w (d e.on))->∀K:Act->Zh->Prop,Hid (∀v r,T i r v->E i w r->J (Eu L i) r->K ((F d).put o.dst v) r)->if Region.wanted o (yielded b (F d).tmps)=true then Oper.wp P o (F d) w K Q else K ((F d).put o.dst undef) w)(hf:∀o L d w,b[last]?=some o->(∀i,i<last->L i=true)->J L w->(∀i,i<last->(∀j,(j,i)∉A)->T i w (d i))->∀K:Act->Zh->Prop,Hid (∀a w,Q .normal a w->K a w)->if Region.wanted o (yielded b (F d).tmps)=true then Oper.wp P o (F d) w K Q else K ((F d).put o.dst undef) w):
 (Code.region id b true).wp P Q (F S) w:=by
 refine RK Z (fun L a w=>if L last=true then (∀i,i<last->L i=true)/\Q .normal a w else ∃d,a=F d/\J L w/\(∀j o,j<last->b[j]?=some o->L j=true->∀e∈o.after,Region.binds .any e=true->L e.on=true)/\∀i,i<last->L i=true->(∀j,(j,i)∈A->L j=false)->T i w (d i)) (KJ ha) ?_ ?_ ?_
 .rw[if_neg Yu];exact⟨S,rfl,h0,fun j o _ _ h=>by simp at h,fun i _ h=>by simp at h⟩
 .intro L a w i o s l y z;have hi:i<b.size:=(Array.getElem?_eq_some_iff.1 l).1;by_cases hil:i=last
  .subst hil;rw[if_neg (by rw[y];simp)]at s;obtain⟨d,rfl,W,G,H⟩:=s;have k:∀j,j<i->L j=true:=by
    intro j g;unfold OY at Y;rw[List.all_eq_true]at Y;have c:=Y j (List.mem_range.2 g);rw[Bool.or_eq_true]at c;rcases c with c|c
    .obtain⟨e,q,V,n⟩:=Hv l c;rw[<-V];exact z e q n
    .obtain⟨m,Z,u⟩:=List.any_eq_true.1 c;rw[Bool.and_eq_true]at u;obtain⟨e,q,V,n⟩:=Hv l u.1;have zE:=List.mem_range.1 Z;have R:b[m]?=some b[m]:=Array.getElem?_eq_getElem Yv;obtain⟨U,B,e2,zB⟩:=Hv R u.2;rw[<-e2];exact G m _ zE R (by rw[<-V];exact z e q n) U B zB
   refine wpOp_step l (fun K X=>hf o L d w l k W (fun j g hn=>H j g (k j g) (fun j' C=>absurd C (hn j'))) K (fun a w h=>X a w ?_));show if Eu L i i=true then _ else _
   rw[if_pos (by unfold Eu;rw[if_pos rfl])];exact⟨fun j g=>by unfold Eu;rw[if_neg Yv];exact k j g,h⟩
  .have t:i<last:=Yv
   have I:L last=false:=by
    cases h:L last with
    |false=>rfl
    |true=>rw[if_pos h]at s;have:=s.1 i t;rw[y]at this;cases this
   rw[if_neg (by rw[I];simp)]at s;obtain⟨d,rfl,W,G,H⟩:=s;have N:∀j,j<last->L j=true->Ig b j i=false:=fun j g f=>by
    cases c:Ig b j i with
    |false=>rfl
    |true=>have O:b[j]?=some b[j]:=Array.getElem?_eq_getElem Yv;obtain⟨U,B,u,h4⟩:=Hv O c;have x:=G j _ g O f U B h4;rw[u,y]at x;cases x
   refine wpOp_step l (fun K X=>hs i o L d w t l y z W (fun e q n=>H e.on (by have:=KJ ha i o l e q (LQ n);omega) (z e q (LQ n)) (fun j g=> ?_)) K (fun v r hv hw zA=>X _ r ?_))
   .unfold ZE at M;have c:=List.all_eq_true.1 (List.all_eq_true.1 M _ g) i (List.mem_range.2 t);rw[l]at c;simp only[Option.map_some,Option.getD_some,Bool.or_eq_true,beq_iff_eq,Array.all_eq_true_iff_forall_mem]at c;rcases c with(c|c)|c
    .rw[<-c];exact y
    .rw[Bool.and_eq_true]at c;cases f:L j with
     |false=>rfl
     |true=>have zC:j<last:=of_decide_eq_true c.1;have x:=N j zC f;rw[c.2]at x;cases x
    .have:=c e q;rw[n]at this;simp at this
   show if Eu L i last=true then _ else _
   rw[if_neg (by unfold Eu;rw[if_neg (Ne.symm hil),I];simp),hF i o d v t l];refine⟨_,rfl,zA,fun j o' g D f e q n=> ?_,fun j g f hN=> ?_⟩
   .have c:L e.on=true:=by
     by_cases hji:j=i
     .subst hji;rw[l]at D;cases D;exact z e q n
     .unfold Eu at f;rw[if_neg hji]at f;exact G j o' g D f e q n
    unfold Eu;rw[c];simp
   by_cases hji:j=i
   .subst hji;rw[if_pos rfl];exact hv
   .rw[if_neg hji];have zF:(i,j)∉A:=fun h=>by have:=hN i h;unfold Eu at this;rw[if_pos rfl]at this;cases this
    unfold Eu at f;rw[if_neg hji]at f;refine hE i j w r _ (fun e=>hji e.symm) zF (N j g f) hw (H j g f (fun j' C=> ?_));have:=hN j' C;unfold Eu at this;split at this
    .cases this
    .exact this
 .intro L a w s k;rw[if_pos (k last Yv)]at s;exact s.2
def JI(last:Nat)(J:Nat->Zh->Prop):(Nat->Bool)->Zh->Prop:=fun L w=>J ((List.range last).filter L).length w
theorem Wl{J:Nat->Zh->Prop}(h:J 0 w):JI last J (fun _=>false) w:=by unfold JI;rw[show(List.range last).filter (fun _=>false)=[]from by simp];exact h
theorem TA{L:Nat->Bool}(c:i<last)(b:L i=false):((List.range last).filter L).length<last:=by have d:=OW L i last c b;have a:((List.range last).filter (Eu L i)).length<=(List.range last).length:=List.length_filter_le _ _;rw[List.length_range]at a;omega
theorem Wm{J:Nat->Zh->Prop}{L:Nat->Bool}(b:i<last)(a:L i=false)(h:J (((List.range last).filter L).length+1) w):JI last J (Eu L i) w:=by unfold JI;rw[OW L i last b a];exact h
theorem QP{J:Nat->Zh->Prop}{L:Nat->Bool}(a:∀i,i<last->L i=true)(h:JI last J L w):J last w:=by have b:(List.range last).filter L=List.range last:=List.filter_eq_self.2 (fun x c=>a x (List.mem_range.1 c));unfold JI at h;rw[b,List.length_range]at h;exact h
theorem OZ{Q:Exit->Act->Zh->Prop}{N:Nat}(last:Nat)(H:P.follows .mixedOrders=true)(s:c.size=last+1)(n:Iw c=true)(G:OY c last=true)(F:(Nat->Value)->Act)(g:Nat->Value)(J:Nat->Zh->Prop)(T:Nat->Zh->Value->Prop)(E:Zh->Zh->Prop)(z:∀i w d v,E w d->T i w v->T i d v)(A:∀i o b v,i<last->c[i]?=some o->(F b).put o.dst v=F (fun j=>if j=i then v else b j))(t:J 0 w.drew)(I:∀i o k b w,i<last->c[i]?=some o->k<last->J k w->(∀e∈o.after,MD e=true->T e.on w (b e.on))->∀K:Act->Zh->Prop,Hid (∀v d,T i d v->E w d->J (k+1) d->K ((F b).put o.dst v) d)->if Region.wanted o (yielded c (F b).tmps)=true then Oper.wp P o (F b) w K Q else K ((F b).put o.dst undef) w)(D:∀o b w,c[last]?=some o->J last w->(∀i,i<last->T i w (b i))->∀K:Act->Zh->Prop,Hid (∀a w,Q .normal a w->K a w)->if Region.wanted o (yielded c (F b).tmps)=true then Oper.wp P o (F b) w K Q else K ((F b).put o.dst undef) w):
 (Code.region N c true).wp P Q (F g) w:=
 Jj last H s n G [] rfl F g (JI last J) T (fun _=>E) (fun _ i w d v _ _ _ C M=>z i w d v C M) A (Wl t) (fun i o L b w f q r _ l m K B=>I i o _ b w f q (TA f r) l m K (fun v d u x y=>B.out v d u x (Wm f r y))) (fun o L b w q n l m=>D o b w q (QP n l) (fun i f=>m i f (fun _ h=>by cases h)))
def Ce(a:Act):List Nat->(Nat->Value)->Nat->Act
 |[],_,_=>a
 |d::ds,xs,k=>Ce (a.put (some d) (xs k)) ds xs (k+1)
theorem WZ(a:Act)(d:Nat)(v u:Value):(a.put (some d) v).put (some d) u=a.put (some d) u:=by simp[Act.put]
theorem Pa:∀(ds:List Nat) (a:Act) (xs:Nat->Value) (k d:Nat) (v:Value),d∉ds->(Ce a ds xs k).put (some d) v=Ce (a.put (some d) v) ds xs k
 |[],_,_,_,_,_,_=>rfl
 |e::ds,a,xs,k,d,v,h=>by have b:d≠e:=fun x=>h (by rw[x];exact List.mem_cons_self);show(Ce (a.put (some e) (xs k)) ds xs (k+1)).put (some d) v=Ce ((a.put (some d) v).put (some e) (xs k)) ds xs (k+1);rw[Pa ds _ xs (k+1) d v (fun x=>h (List.mem_cons_of_mem _ x)),Act.put_comm a (xs k) v (by simpa using b)]
theorem GK:∀(ds:List Nat) (a:Act) (xs ys:Nat->Value) (k:Nat),(∀j,k<=j->xs j=ys j)->Ce a ds xs k=Ce a ds ys k
 |[],_,_,_,_,_=>rfl
 |d::ds,a,xs,ys,k,h=>by show Ce (a.put (some d) (xs k)) ds xs (k+1)=Ce (a.put (some d) (ys k)) ds ys (k+1);rw[h k (Zx)];exact GK ds _ xs ys (k+1) (fun j b=>h j Yv)
theorem QQ:∀(ds:List Nat) (a:Act) (xs:Nat->Value) (k i d:Nat) (v:Value),ds.Nodup->ds[i]?=some d->(Ce a ds xs k).put (some d) v=Ce a ds (fun j=>if j=k+i then v else xs j) k
 |[],_,_,_,_,_,_,_,h=>by simp at h
 |e::ds,a,xs,k,0,d,v,hn,h=>by
  obtain rfl:e=d:=by simpa using h
  show(Ce (a.put (some e) (xs k)) ds xs (k+1)).put (some e) v=Ce (a.put (some e) (if k=k+0 then v else xs k)) ds _ (k+1);rw[Pa ds _ xs (k+1) e v (List.nodup_cons.1 hn).1,WZ,if_pos (Nat.add_zero k).symm];exact GK ds _ _ _ (k+1) (fun j b=>by rw[if_neg Yv])
 |e::ds,a,xs,k,i+1,d,v,hn,h=>by show(Ce (a.put (some e) (xs k)) ds xs (k+1)).put (some d) v=Ce (a.put (some e) (if k=k+(i+1)then v else xs k)) ds _ (k+1);rw[QQ ds _ xs (k+1) i d v (List.nodup_cons.1 hn).2 (by simpa using h),if_neg Yv];exact GK ds _ _ _ (k+1) (fun j b=>by rw[show k+1+i=k+(i+1) by omega])
theorem UY(a:Act)(d:Nat):a.put (some d) (a.tmps.getD d undef)=a:=by
 obtain⟨t,b⟩:=a;show Act.mk (t.setIfInBounds d (t.getD d undef)) b=_;congr 1;apply Array.ext
 .simp
 .intro i e c;rw[Array.getElem_setIfInBounds];split
  .rename_i h
   subst h;simp[c]
  .rfl
theorem Ns:∀(ds:List Nat) (a:Act) (k:Nat),∃b,Ce a ds b k=a
 |[],a,_=>⟨fun _=>undef,rfl⟩
 |d::ds,a,k=>by obtain⟨b,h⟩:=Ns ds a (k+1);refine⟨fun j=>if j=k then a.tmps.getD d undef else b j,?_⟩;show Ce (a.put (some d) (if k=k then _ else _)) ds _ (k+1)=a;rw[if_pos rfl,UY];exact(GK ds a _ b (k+1) (fun j c=>if_neg Yv)).trans h
def UZ(ops:Array Oper)(ds:List Nat):Bool:=(List.range ds.length).all fun i=>((ops[i]?).map (fun o=>decide (o.dst=ds[i]?))).getD false
theorem Pb{Q:Exit->Act->Zh->Prop}(d:List Nat)(last:Nat)(hlen:d.length=last)(B:Oper)(D:b[last]?=some B)(R:P.follows .mixedOrders=true)(F:b.size=last+1)(x:Iw b=true)(O:OY b last=true)(k:UZ b d=true)(S:d.Nodup)(q:b.all (·.guard.isNone)=true)(n:List (Nat×Nat))(C:ZE b last n=true)(J:(Nat->Bool)->Zh->Prop)(T:Nat->Zh->Value->Prop)(E:Nat->Zh->Zh->Prop)(I:∀j i w g v,j≠i->(j,i)∉n->Ig b i j=false->E j w g->T i w v->T i g v)(H:J (fun _=>false) w.drew)(U:∀i o L c w,i<last->b[i]?=some o->L i=false->(∀e∈o.after,Region.binds .any e=true->L e.on=true)->J L w->(∀e∈o.after,MD e=true->T e.on w (c e.on))->∀K:Act->Zh->Prop,Hid (∀v g,T i g v->E i w g->J (Eu L i) g->K ((Ce a d c 0).put o.dst v) g)->Oper.wp P o (Ce a d c 0) w K Q)(N:∀L c w,(∀i,i<last->L i=true)->J L w->(∀i,i<last->(∀j,(j,i)∉n)->T i w (c i))->∀K:Act->Zh->Prop,Hid (∀a w,Q .normal a w->K a w)->Oper.wp P B (Ce a d c 0) w K Q):
 (Code.region id b true).wp P Q a w:=by
 subst hlen;have A:∀i o t,b[i]?=some o->Region.wanted o t=true:=fun i o t f=>by rw[Array.all_eq_true_iff_forall_mem]at q;have h:=q o (Array.mem_of_getElem? f);simp[Region.wanted,Option.isNone_iff_eq_none.1 h]
 obtain⟨G,l⟩:=Ns d a 0;have:=Jj (id:=id) (w:=w) (Q:=Q) d.length R F x O n C (fun c=>Ce a d c 0) G J T E I ?_ H (fun i o L c w m f M k r u K s=>by rw[if_pos (A i o _ f)];exact U i o L c w m f M k r u K s) (fun o L c w f x r u K s=>by rw[if_pos (A _ o _ f)];rw[D]at f;cases f;exact N L c w x r u K s)
 .rw[<-l];rw[l]at this;rw[l];exact this
 .intro i o c v m f;unfold UZ at k;rw[List.all_eq_true]at k;have h:=k i (List.mem_range.2 m);rw[f]at h;simp only[Option.map_some,Option.getD_some,decide_eq_true_eq]at h;have y:=Zv m;rw[h,y];have z:=QQ d a c 0 i _ v S y;rw[Nat.zero_add]at z;exact z
theorem Fc{Q:Exit->Act->Zh->Prop}{R:Nat}(f:List Nat)(last:Nat)(hlen:f.length=last)(n:Oper)(s:b[last]?=some n)(H:P.follows .mixedOrders=true)(t:b.size=last+1)(m:Iw b=true)(G:OY b last=true)(C:UZ b f=true)(I:f.Nodup)(r:b.all (·.guard.isNone)=true)(J:Nat->Zh->Prop)(T:Nat->Zh->Value->Prop)(E:Zh->Zh->Prop)(A:∀i w c v,E w c->T i w v->T i c v)(u:J 0 w.drew)(N:∀i o k d w,i<last->b[i]?=some o->k<last->J k w->(∀e∈o.after,MD e=true->T e.on w (d e.on))->∀K:Act->Zh->Prop,Hid (∀v c,T i c v->E w c->J (k+1) c->K ((Ce a f d 0).put o.dst v) c)->Oper.wp P o (Ce a f d 0) w K Q)(F:∀d w,J last w->(∀i,i<last->T i w (d i))->∀K:Act->Zh->Prop,Hid (∀a w,Q .normal a w->K a w)->Oper.wp P n (Ce a f d 0) w K Q):
 (Code.region R b true).wp P Q a w:=
 Pb f last hlen n s H t m G C I r [] rfl (JI last J) T (fun _=>E) (fun _ i w c v _ _ _ D O=>A i w c v D O) (Wl u) (fun i o L d w g M q _ j l K B=>N i o _ d w g M (TA g q) j l K (fun v c x y z=>B.out v c x y (Wm g q z))) (fun L d w m j l=>F d w (QP m j) (fun i g=>l i g (fun _ h=>by cases h)))
theorem TB(a b:Zk)(c d:Nat)(f g:Zl)(w:Zh)(q:Ad w w.heap.size a f)(o:Ad w w.heap.size b g)(Y:f.length<=1048576)(R:g.length<=1048576):
 Calls prog 55 #[.slice a f.length c,.slice b g.length d] w fun e P=>Aq (f=g) w P e:=by
 by_cases hlen:f.length=g.length
 .have E:((f.length:Int) !=(g.length:Int))=false:=Yt
  have n:=Yw hlen;have L:Hid (∀X,Zz w X->Ad X w.heap.size a f/\Ad X w.heap.size b g):=fun X z=>⟨q.below z,o.below z⟩;clear hlen q o;go_enter func55,ntmps55;go_wp2
  go_loopw [5] (fun i wr=>∃k:Nat,k<=f.length/\i=Zg k/\Hid (f.take k=g.take k/\Zz w wr)) (fun i _=>f.length -(intOf i).toNat)
  case atStart=>exact⟨0,Nat.zero_le _,rfl,⟨Yu,Ae⟩⟩
  case round=>
   obtain⟨k,W,rfl,m⟩:=hrel;obtain⟨q,o⟩:=L.o wr m.o.2;by_cases hlt:k<f.length
   .have j:k<g.length:=by have:=n.o;omega
    obtain⟨rb,ro,N,H,t⟩:=q.at hlt;obtain⟨Z,qo,O,G,s⟩:=o.at j;subst N O;have U:=t k _ (Zv hlt);have V:=s k _ (Zv j);have T:=Zr H m.o.2.size;have S:=Zr G m.o.2.size;have C:=Yw (Zu hlt);have D:=Yw (Zu j);have HN:Hid (∀x y,f[k]?=some x->g[k]?=some y->x≠y->f≠g):=fun x y M v F e=>by subst e;rw[M]at v;exact F (Option.some.inj v)
    have A:=Yw (Zv hlt);have B:=Yw (Zv j);have Q:(k:Int)<g.length:=Yv
    clear t s q o;generalize f[k]=x at *
    generalize g[k]=y at *
    have r:=Yw m.o.2;by_cases hxy:x=y
    .subst hxy;have u:(x.toList !=x.toList)=false:=Yu
     go_wp2
     go_region
     all_goals go_wp2
     all_goals exact⟨⟨k+1,Yv,Yn,⟨by rw[C.o,D.o,m.o.1],r.o.drew⟩⟩,Ys⟩
    .have u:=Bz hxy;have J:(x.toList !=y.toList)=true:=by simp[bne,u]
     go_wp2
     go_region
     all_goals go_wp2
     all_goals go_ret
     all_goals exact Aq.no (fun h=>HN.o x y A.o B.o hxy h) r.o.drew
   .obtain rfl:k=f.length:=Yv
    have l:=m.o.1;have r:=Yw m.o.2;rw[Zt (Zx),Zt (by have:=n.o;omega)]at l;have K:=Yw l;clear q o l;go_wp2;go_ret;exact Aq.yes K.o r.o
 .have E:((f.length:Int)==(g.length:Int))=false:=Yt
  have I:((f.length:Int) !=(g.length:Int))=true:=Yt
  go_enter func55,ntmps55;go_wp2;go_ret;exact Aq.no (fun h=>hlen (by rw[h])) Ae
theorem RL(t u:Zi)(a b:Zk)(c d:Nat)(f g:Zl)(w:Zh)(n:Ad w w.heap.size a f)(m:Ad w w.heap.size b g)(y:f.length<=1048576)(q:g.length<=1048576):
 Calls prog 24 #[.agg #[.string t,.slice a f.length c],.agg #[.string u,.slice b g.length d]] w fun e z=>Aq (t=u/\f=g) w z e:=by
 obtain⟨W,i⟩:=Af ((w.alloc (.cells #[.string t,.slice a f.length c] 36)).alloc (.cells #[.string u,.slice b g.length d] 36));have k:=(Bb i).1;obtain⟨B,C⟩:=Aa.c2 (Bb i).2.2.1 0 1;obtain⟨D,E⟩:=Aa.c2 (Bb i).2.2.2 0 1;have v:=Yw (TB a b c d f g W (n.N k) (m.N k) y q);have j:=Yw i;have l:=Yw k;clear i n m k;by_cases ht:t=u
 .subst ht;have s:(t.toList==t.toList)=true:=Yu
  go_enter func24,ntmps24;go_upto_region 1 with fail;rw[<-j.o];clear j;go_wp2_with (go_at_call 55;refine v.Ah ?_;rintro e A ⟨x,rfl,r,o⟩);go_ret;exact⟨x,Yu,by simpa using r,l.o.trans (o.mono l.o.size)⟩
 .have s:=Bz ht;go_enter func24,ntmps24;go_upto_region 1 with fail;rw[<-j.o];clear j;go_wp2;go_ret;exact Aq.no (fun h=>by first|exact h|exact ht h.1) l.o
section
attribute [local go_sem↓] Go.wp_at_zero Go.wp_at_succ
theorem LR(V now j d J s c b:Int)(a p l a' p' l':Zk)(ac pc lc zC zH zG:Nat)(z o:List Kd)(C r:List Pd)(B q:List Ld)(w:Zh)(H:Bt w w.heap.size a p l z C B)(G:Bt w w.heap.size a' p' l' o r q)(hl:z.length<=100000/\C.length<=100000/\B.length<=100000)(yI:o.length<=1048576/\r.length<=1048576/\q.length<=1048576)(P:∀k∈z,k.B.length<=100000)(Q:∀k∈o,k.B.length<=1048576):
 Calls prog 7 #[.agg (Yg V now j d a z.length ac p C.length pc l B.length lc),.agg (Yg J s c b a' o.length zC p' r.length zH l' q.length zG)] w fun e w'=>Aq ((V=J/\now=s/\j=c/\d=b)/\z=o/\C=r/\B=q) w w' e:=by
 obtain⟨W,hW⟩:=Af ((w.alloc (.cells (Yg V now j d a z.length ac p C.length pc l B.length lc) 30)).alloc (.cells (Yg J s c b a' o.length zC p' r.length zH l' q.length zG) 30));have R:=(Bb hW).1;have t:=(Bb hW).2.2.1;have u:Aa W (w.heap.size+1) (Yh J s c b a' o.length zC p' r.length zH l' q.length zG):=by have P:=Aa.new (w.alloc (.cells (Yg V now j d a z.length ac p C.length pc l B.length lc) 30)) (Yh J s c b a' o.length zC p' r.length zH l' q.length zG) 30;rw[World.size_alloc]at P;rw[hW];exact P
 have HX:Hid (∀X,Zz W X->Aa X w.heap.size (Yh V now j d a z.length ac p C.length pc l B.length lc)/\Aa X (w.heap.size+1) (Yh J s c b a' o.length zC p' r.length zH l' q.length zG)/\Bt X w.heap.size a p l z C B/\Bt X w.heap.size a' p' l' o r q/\Zz w X):=fun X hX=>by have A:=R.trans (hX.mono R.size);exact⟨Aa.below t hX,Aa.below u hX,H.ag A,G.ag A,A⟩
 have zW:=(Bb hW).2.1;obtain⟨zV,_⟩:=t 0 _ rfl;obtain⟨yC,_⟩:=u 0 _ rfl;obtain⟨zX,_⟩:=t 1 _ rfl;obtain⟨yD,_⟩:=u 1 _ rfl;obtain⟨zY,_⟩:=t 2 _ rfl;obtain⟨yE,_⟩:=u 2 _ rfl;obtain⟨zZ,_⟩:=t 3 _ rfl;obtain⟨yF,_⟩:=u 3 _ rfl;obtain⟨K,_⟩:=t 4 _ rfl;obtain⟨L,_⟩:=u 4 _ rfl;obtain⟨yA,_⟩:=t 5 _ rfl;obtain⟨yG,_⟩:=u 5 _ rfl;obtain⟨yB,_⟩:=t 6 _ rfl;obtain⟨yH,_⟩:=u 6 _ rfl;have D:=Yw hW;clear hW H G t u
 by_cases e0:V=J
 .have b0:(V !=J)=false:=by simp[e0]
  have E0:=Yw e0;clear e0;by_cases e1:now=s
  .have b1:(now !=s)=false:=by simp[e1]
   have E1:=Yw e1;clear e1;by_cases e2:j=c
   .have b2:(j !=c)=false:=by simp[e2]
    have E2:=Yw e2;clear e2;by_cases e3:d=b
    .have b3:(d !=b)=false:=by simp[e3]
     have E3:=Yw e3;clear e3;by_cases e4:z.length=o.length
     .have b4:((z.length:Int) !=(o.length:Int))=false:=by simp[e4]
      have E4:=Yw e4;clear e4;by_cases e5:C.length=r.length
      .have b5:((C.length:Int) !=(r.length:Int))=false:=by simp[e5]
       have E5:=Yw e5;clear e5;by_cases e6:B.length=q.length
       .have b6:((B.length:Int) !=(q.length:Int))=false:=by simp[e6]
        have E6:=Yw e6;clear e6;go_enter func7,ntmps7;go_upto_region 1 with fail;rw[<-D.o];clear D;go_wp2;clear b0 b1 b2 b3 b4 b5 b6
        go_loopw [5] (fun i wr=>∃k:Nat,k<=z.length/\i=Zg k/\Hid (z.take k=o.take k/\Zz W wr)) (fun i _=>z.length -(intOf i).toNat)
        case atStart=>exact⟨0,Nat.zero_le _,rfl,⟨Yu,Ae⟩⟩
        case round=>
         clear zV yC zX yD zY yE zZ yF K L yA yG yB yH;obtain⟨k,hk,rfl,v⟩:=hrel;obtain⟨t,u,H,G,g⟩:=HX.o wr v.o.2;have zR:=v.o.2.size;obtain⟨K,_⟩:=t 4 _ rfl;obtain⟨L,_⟩:=u 4 _ rfl;by_cases hlt:k<z.length
         .have f:k<o.length:=by have:=E4.o;omega
          obtain⟨rb,ro,ha,zF,O⟩:=H.k.at hlt;obtain⟨qb,qo,A,zE,N⟩:=G.k.at f;subst ha A;obtain⟨c0,c1,c2,ra,rc,c3,zP⟩:=O k _ (Zv hlt);obtain⟨d0,d1,d2,sa,sc,d3,zO⟩:=N k _ (Zv f);have T:=Zr zF g.size;have S:=Zr zE g.size;have zA:=Yw (Zu hlt);have zB:=Yw (Zu f);have HN:Hid (∀x y,z[k]?=some x->o[k]?=some y->x≠y->z≠o):=fun x y P Q U e=>by subst e;rw[P]at Q;exact U (Option.some.inj Q)
          have E:=Yw (Zv hlt);have F:=Yw (Zv f);have zN:(k:Int)<o.length:=Yv
          have m1:=P _ (List.getElem_mem hlt);have m2:=Q _ (List.getElem_mem f);clear O N;generalize z[k]=x at *
          generalize o[k]=y at *
          have HB:=Yw v.o.2;have HC:Hid (∀n:Aw wr,Calls prog 24 #[.agg #[.string x.J,.slice ra x.B.length rc],.agg #[.string y.J,.slice sa y.B.length sc]] n.w fun e w'=>e=.returned (.bool (decide (x.J=y.J/\x.B=y.B)))/\Below n.w.heap.size n.w w'):=fun n=>by
           have zM:=g.trans (n.h.mono g.size);refine(RL x.J y.J ra sa rc sc x.B y.B n.w ((zP.below (n.h.mono g.size)).mono zM.size) ((zO.below (n.h.mono g.size)).mono zM.size) (Zm m1 Yq) m2).mono ?_;rintro e w' ⟨bb,rfl,zK,zJ⟩;refine⟨?_,zJ⟩;by_cases hP:x.J=y.J/\x.B=y.B
           .rw[zK.2 hP,decide_eq_true hP]
           .cases bb with
            |true=>exact absurd (zK.1 rfl) hP
            |false=>rw[decide_eq_false hP]
          have q1:=Aw.cell K Yv;have q2:=Aw.cell L Yv;have r0:=Aw.cell c0 T;have s0:=Aw.cell d0 S;have r1:=Aw.cell c1 T;have s1:=Aw.cell d1 S;have r2:=Aw.cell c2 T;have s2:=Aw.cell d2 S;have r3:=Aw.cell c3 T;have s3:=Aw.cell d3 S;have U:=Aw.ne wr;have HE:Hid (∀n:Aw wr,Zz W n.w):=fun n=>HB.o.trans (n.h.mono HB.o.size);clear t u H G zP zO g;by_cases hs:x.sum=y.sum
          .have zT:(x.sum.toList !=y.sum.toList)=false:=by rw[hs];simp
           have zU:(x.sum.toList==y.sum.toList)=true:=by rw[hs];simp
           by_cases A:x.born=y.born
           .have zJ:(x.born !=y.born)=false:=by simp[A]
            have zS:(x.born==y.born)=true:=by simp[A]
            by_cases hP:x.J=y.J/\x.B=y.B
            .rw[decide_eq_true hP]at HC;have M:Hid (x=y):=by obtain⟨e1,e2⟩:=hP;show x=y;cases x;cases y;simp_all
             clear hP hs A;go_wp2;refine Ax Yr Yr ?_
             repeat (go_big_quiet_step (exact Aw.calls (HC.o _)))
             refine wpQuiet_nil ?_;intro n;clear q1 q2 r0 r1 r2 r3 s0 s1 s2 s3 K L c0 c1 c2 c3 d0 d1 d2 d3;go_wp2;exact⟨⟨k+1,Yv,Yn,⟨by rw[zA.o,zB.o,v.o.1,M.o],HE.o n⟩⟩,Ys⟩
            .rw[decide_eq_false hP]at HC;have Z:=Yw hP;clear hP hs A;go_wp2;refine Ax Yr Yr ?_
             repeat (go_big_quiet_step (exact Aw.calls (HC.o _)))
             refine wpQuiet_nil ?_;intro n;have Y:=Yw ((HX.o _ (HE.o n)).2.2.2.2);clear q1 q2 r0 r1 r2 r3 s0 s1 s2 s3 K L c0 c1 c2 c3 d0 d1 d2 d3;go_wp2;go_ret;exact Aq.no (fun h=>HN.o x y E.o F.o (fun e=>Z.o (by rw[e];exact⟨rfl,rfl⟩)) h.2.1) Y.o
           .have zJ:(x.born !=y.born)=true:=by simp[A]
            have zS:(x.born==y.born)=false:=by simp[A]
            have Z:=Yw A;clear A hs;go_wp2;refine Ax Yr Yr ?_
            repeat (go_big_quiet_step (exact Aw.calls (HC.o _)))
            refine wpQuiet_nil ?_;intro n;have Y:=Yw ((HX.o _ (HE.o n)).2.2.2.2);clear q1 q2 r0 r1 r2 r3 s0 s1 s2 s3 K L c0 c1 c2 c3 d0 d1 d2 d3;go_wp2;go_ret;exact Aq.no (fun h=>HN.o x y E.o F.o (fun e=>Z.o (by rw[e])) h.2.1) Y.o
          .have zT:(x.sum.toList !=y.sum.toList)=true:=by simp[bne,Bz hs]
           have zU:=Bz hs;have Z:=Yw hs;clear hs;go_wp2;refine Ax Yr Yr ?_
           repeat (go_big_quiet_step (exact Aw.calls (HC.o _)))
           refine wpQuiet_nil ?_;intro n;have Y:=Yw ((HX.o _ (HE.o n)).2.2.2.2);clear q1 q2 r0 r1 r2 r3 s0 s1 s2 s3 K L c0 c1 c2 c3 d0 d1 d2 d3;go_wp2;go_ret;exact Aq.no (fun h=>HN.o x y E.o F.o (fun e=>Z.o (by rw[e])) h.2.1) Y.o
         .obtain rfl:k=z.length:=Yv
          have m:=v.o.1;rw[Zt (Zx),Zt (by have:=E4.o;omega)]at m;have HK:=Yw m;have zI:=Yw v.o.2;clear m t u H G g;go_wp2
          go_loopw [6] (fun i wr=>∃k:Nat,k<=C.length/\i=Zg k/\Hid (C.take k=r.take k/\Zz W wr)) (fun i _=>C.length -(intOf i).toNat)
          case atStart=>exact⟨0,Nat.zero_le _,rfl,⟨Yu,zI.o⟩⟩
          case round=>
           obtain⟨k,hk,rfl,v⟩:=hrel;obtain⟨t,u,H,G,g⟩:=HX.o wr v.o.2;have zR:=v.o.2.size;obtain⟨K,_⟩:=t 5 _ rfl;obtain⟨L,_⟩:=u 5 _ rfl;by_cases hlt:k<C.length
           .have f:k<r.length:=by have:=E5.o;omega
            obtain⟨rb,ro,ha,zF,O⟩:=H.p.at hlt;obtain⟨qb,qo,A,zE,N⟩:=G.p.at f;subst ha A;obtain⟨c0,c1⟩:=O k _ (Zv hlt);obtain⟨d0,d1⟩:=N k _ (Zv f);have T:=Zr zF g.size;have S:=Zr zE g.size;have zA:=Yw (Zu hlt);have zB:=Yw (Zu f);have HN:Hid (∀x y,C[k]?=some x->r[k]?=some y->x≠y->C≠r):=fun x y P Q U e=>by subst e;rw[P]at Q;exact U (Option.some.inj Q)
            have E:=Yw (Zv hlt);have F:=Yw (Zv f);have zN:(k:Int)<r.length:=Yv
            clear O N;generalize C[k]=x at *
            generalize r[k]=y at *
            have HB:=Yw v.o.2;have I:=Yw g;clear t u H G g;by_cases hxy:x=y
            .subst hxy;go_wp2
             go_region
             all_goals go_wp2
             all_goals exact⟨⟨k+1,Yv,Yn,⟨by rw[zA.o,zB.o,v.o.1],HB.o.drew⟩⟩,Ys⟩
            .have M:=Yw hxy;by_cases n0:x.name=y.name
             .have k0:x.name.toList=y.name.toList:=by rw[n0]
              have n1:¬x.sum=y.sum:=fun e=>hxy (by
               cases x;cases y;simp_all)
              have k1:¬x.sum.toList=y.sum.toList:=fun e=>n1 (FW e);clear hxy n0 n1;go_wp2
              go_region
              all_goals go_wp2
              all_goals go_ret
              all_goals exact Aq.no (fun h=>HN.o x y E.o F.o M.o h.2.2.1) I.o.drew
             .have k0:¬x.name.toList=y.name.toList:=fun e=>n0 (FW e);clear n0 hxy;go_wp2
              go_region
              all_goals go_wp2
              all_goals go_ret
              all_goals exact Aq.no (fun h=>HN.o x y E.o F.o M.o h.2.2.1) I.o.drew
           .obtain rfl:k=C.length:=Yv
            have m:=v.o.1;rw[Zt (Zx),Zt (by have:=E5.o;omega)]at m;have HP:=Yw m;have zI:=Yw v.o.2;have I:=Yw g;clear m t u H G g;go_wp2
            go_loopw [7] (fun i wr=>∃k:Nat,k<=B.length/\i=Zg k/\Hid (B.take k=q.take k/\Zz W wr)) (fun i _=>B.length -(intOf i).toNat)
            case atStart=>exact⟨0,Nat.zero_le _,rfl,⟨Yu,zI.o⟩⟩
            case round=>
             obtain⟨k,hk,rfl,v⟩:=hrel;obtain⟨t,u,H,G,g⟩:=HX.o wr v.o.2;have zR:=v.o.2.size;obtain⟨K,_⟩:=t 6 _ rfl;obtain⟨L,_⟩:=u 6 _ rfl;by_cases hlt:k<B.length
             .have f:k<q.length:=by have:=E6.o;omega
              obtain⟨rb,ro,ha,zF,O⟩:=H.l.at hlt;obtain⟨qb,qo,A,zE,N⟩:=G.l.at f;subst ha A;obtain⟨c0,c1,c2⟩:=O k _ (Zv hlt);obtain⟨d0,d1,d2⟩:=N k _ (Zv f);have T:=Zr zF g.size;have S:=Zr zE g.size;have zA:=Yw (Zu hlt);have zB:=Yw (Zu f);have HN:Hid (∀x y,B[k]?=some x->q[k]?=some y->x≠y->B≠q):=fun x y P Q U e=>by subst e;rw[P]at Q;exact U (Option.some.inj Q)
              have E:=Yw (Zv hlt);have F:=Yw (Zv f);have zN:(k:Int)<q.length:=Yv
              clear O N;generalize B[k]=x at *
              generalize q[k]=y at *
              have HB:=Yw v.o.2;have I:=Yw g;clear t u H G g;by_cases hxy:x=y
              .subst hxy;go_wp2
               go_region
               all_goals go_wp2
               all_goals exact⟨⟨k+1,Yv,Yn,⟨by rw[zA.o,zB.o,v.o.1],HB.o.drew⟩⟩,Ys⟩
              .have M:=Yw hxy;by_cases n0:x.H=y.H
               .have k0:=n0;by_cases n1:x.sum=y.sum
                .have k1:x.sum.toList=y.sum.toList:=by rw[n1]
                 have n2:¬x.R=y.R:=fun e=>hxy (by
                  cases x;cases y;simp_all)
                 clear hxy n1;go_wp2
                 go_region
                 all_goals go_wp2
                 all_goals go_ret
                 all_goals exact Aq.no (fun h=>HN.o x y E.o F.o M.o h.2.2.2) I.o.drew
                .have k1:¬x.sum.toList=y.sum.toList:=fun e=>n1 (FW e);clear n1 hxy;go_wp2
                 go_region
                 all_goals go_wp2
                 all_goals go_ret
                 all_goals exact Aq.no (fun h=>HN.o x y E.o F.o M.o h.2.2.2) I.o.drew
               .clear hxy;go_wp2
                go_region
                all_goals go_wp2
                all_goals go_ret
                all_goals exact Aq.no (fun h=>HN.o x y E.o F.o M.o h.2.2.2) I.o.drew
             .obtain rfl:k=B.length:=Yv
              have m:=v.o.1;rw[Zt (Zx),Zt (by have:=E6.o;omega)]at m;have HL:=Yw m;have zI:=Yw v.o.2;have I:=Yw g;clear m t u H G g;go_wp2;go_ret;exact Aq.yes ⟨⟨E0.o,E1.o,E2.o,E3.o⟩,HK.o,HP.o,HL.o⟩ I.o
       .have b6:=bne_iff_ne.2 Yv;go_enter func7,ntmps7;go_upto_region 1 with fail;rw[<-D.o];clear D;go_wp2;go_ret;exact Aq.no (fun h=>e6 (by rw[h.2.2.2])) R
      .have b5:=bne_iff_ne.2 Yv;go_enter func7,ntmps7;go_upto_region 1 with fail;rw[<-D.o];clear D;go_wp2;go_ret;exact Aq.no (fun h=>e5 (by rw[h.2.2.1])) R
     .have b4:=bne_iff_ne.2 Yv;go_enter func7,ntmps7;go_upto_region 1 with fail;rw[<-D.o];clear D;go_wp2;go_ret;exact Aq.no (fun h=>e4 (by rw[h.2.1])) R
    .have b3:(d !=b)=true:=by simp[e3]
     go_enter func7,ntmps7;go_upto_region 1 with fail;rw[<-D.o];clear D;go_wp2;go_ret;exact Aq.no (fun h=>e3 h.1.2.2.2) R
   .have b2:(j !=c)=true:=by simp[e2]
    go_enter func7,ntmps7;go_upto_region 1 with fail;rw[<-D.o];clear D;go_wp2;go_ret;exact Aq.no (fun h=>e2 h.1.2.2.1) R
  .have b1:(now !=s)=true:=by simp[e1]
   go_enter func7,ntmps7;go_upto_region 1 with fail;rw[<-D.o];clear D;go_wp2;go_ret;exact Aq.no (fun h=>e1 h.1.2.1) R
 .have b0:(V !=J)=true:=by simp[e0]
  go_enter func7,ntmps7;go_upto_region 1 with fail;rw[<-D.o];clear D;go_wp2;go_ret;exact Aq.no (fun h=>e0 h.1.1) R
end
end Go.Proofs.YtoglnpagihdhpaaGreatDoor
