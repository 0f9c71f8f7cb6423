import Derived.Test.YtcfjcdpkpiidkaaGreatX08
import Derived.Test.YtcfjcdpkpiidkaaGreatX07
set_option maxRecDepth 100000
set_option maxHeartbeats 16000000
namespace Go.Proofs.YtcfjcdpkpiidkaaGreat
open ChangeShapes WideShapes ChangeAt RowKit _root_.Go.Proofs.Tryz
variable{w:Zh}{b:Nat}{e d:Int}{c a:Zl}{Q M:Value}{s:Zi}
theorem Bi.grown{g:Zh}{q:Nat}{c f:Int}(h:Bi w b e Q M d c f)(a:w.grownBy g (some q))(o:b≠q):Bi g b e Q M d c f:=by obtain⟨i,j,k,l,m,n,s⟩:=h;have r:=a.size;exact⟨a.cell i Yt,a.cell j Yt,a.cell k Yt,a.cell l Yt,a.cell m Yt,a.cell n Yt,Yv⟩
theorem Eu(r j i s:Int)(g h D B:Nat)(a d:Zl)(w:Zh)(hq:Ab w w.heap.size (some ⟨g,0,none⟩) a)(hm:Ab w w.heap.size (some ⟨h,0,none⟩) d)(hf:GW a d):
 Calls prog 133 #[.agg (Ye r (some ⟨g,0,none⟩) a.length D (some ⟨h,0,none⟩) d.length B j i s)] w fun e X=>∃x l y C,e=.returned (.agg (Ye r (some ⟨x,0,none⟩) a.length l (some ⟨y,0,none⟩) d.length C j i s))/\
  X.ownsRow w.heap.size 9 1 (Yz x a.length l) a.length (a.map Value.string)/\X.ownsRow w.heap.size 9 1 (Yz y d.length C) d.length (d.map Value.string)/\x≠y/\Zz w X:=by
 have zF:=hf.q;have zE:=hf.m;obtain⟨i0,hi,R,S,T⟩:=info_parts BO;obtain⟨W,q⟩:=Af (((w.alloc (.cells (Ye r (some ⟨g,0,none⟩) a.length D (some ⟨h,0,none⟩) d.length B j i s) 31)).alloc (.cells Xx 31)).alloc (.cells (Ye r (some ⟨g,0,none⟩) a.length D (some ⟨h,0,none⟩) d.length B j i s) 31));have u:Below w.heap.size w W:=by rw[q];exact((Zy).alloc Yu _).alloc Yt _
 have x2:Bi W (w.heap.size+1+1) r (Yz g a.length D) (Yz h d.length B) j i s:=by rw[q];exact⟨by simp[go_sem],by simp[go_sem],by simp[go_sem],by simp[go_sem],by simp[go_sem],by simp[go_sem],Yu⟩
 have x1:Bi W (w.heap.size+1) 0 Zb Zb 0 0 0:=by rw[q];exact⟨by simp[go_sem],by simp[go_sem],by simp[go_sem],by simp[go_sem],by simp[go_sem],by simp[go_sem],Ym⟩
 have x0:Bi W w.heap.size r (Yz g a.length D) (Yz h d.length B) j i s:=by rw[q];exact⟨by simp[go_sem],by simp[go_sem],by simp[go_sem],by simp[go_sem],by simp[go_sem],by simp[go_sem],Ym⟩
 have f2:∀o,W.frozen? ⟨w.heap.size+1+1,o,none⟩=false:=fun o=>by rw[q];simp[go_sem]
 have f1:∀o,W.frozen? ⟨w.heap.size+1,o,none⟩=false:=fun o=>by rw[q];simp[go_sem]
 have zC:W.heap.size=w.heap.size+3:=by rw[q];simp
 have Z:=Yw q;clear q;go_enter func133,ntmps133;go_wp2_with (first
  |(at_builtin;refine wpList_append_own _ rfl _ _ 29 rfl (w.heap.size+3) 9 i0 Zc 1 16 underlying29 hi R S T rfl Yq _ 0 (([]:Zl).map Value.string) rfl ?d0 ⟨g,0,none⟩ a.length D (a.map Value.string) rfl ?d1 ?d2 ?d3 ?d4 ?d5 ?d6 ?_)
  |go_in)
 all_goals try rw[<-Z.o]
 case d0=>
  have:=World.ownsRow_lit (base:=w.heap.size+3) (e:=9) (size:=1) W #[] 0 Yv Yo rfl;rw[zC]at this;exact this
 case d1=>simp
 case d2=>exact(hq.below (u.alloc u.size _)).cf
 case d3=>exact PQ a
 case d4=>unfold maxLen;omega
 case d5=>omega
 case d6=>simp;omega
 intro v1 m z F M;have G:∃x l,v1=Yz x a.length l:=by have:=JU z M;simpa using this
 obtain⟨x,l,rfl⟩:=G;try simp only[Nat.zero_add,List.map_nil,List.nil_append]at z
 have I:=F.size;have b:(W.alloc (.cells #[] 9)).grownBy m (some (w.heap.size+3)):=by simpa [Value.ownBlock]using F
 have f:Below W.heap.size W (W.alloc (.cells #[] 9)):=Zy;have y0:=(x0.below f).grown b Yv;have y1:=(x1.below f).grown b Yv;have y2:=(x2.below f).grown b Yv;have e2:∀o,m.frozen? ⟨w.heap.size+1+1,o,none⟩=false:=fun o=>(b.frozen_far ⟨w.heap.size+1+1,o,none⟩ Ym Ym).trans ((f.frozen (p:=⟨w.heap.size+1+1,o,none⟩) Ym).trans (f2 o))
 have e1:∀o,m.frozen? ⟨w.heap.size+1,o,none⟩=false:=fun o=>(b.frozen_far ⟨w.heap.size+1,o,none⟩ Ym Ym).trans ((f.frozen (p:=⟨w.heap.size+1,o,none⟩) Ym).trans (f1 o));have J:Below w.heap.size w m:=(u.trans (f.mono u.size)).grown b Yt (fun k U=>by cases U;omega);have lx:=z.lt x rfl;simp at I;obtain⟨a0,a1,a2,a3,a4,a5,a6⟩:=y0
 obtain⟨b0,b1,b2,b3,b4,b5,b6⟩:=y1;obtain⟨c0,c1,c2,c3,c4,c5,c6⟩:=y2;clear x0 x1 x2 f1 f2 f F b M Z u;obtain⟨V,n⟩:=Af (m.setCell (Zd (w.heap.size+1+1) 1) (Yz x a.length l));have t:Below w.heap.size w V:=by rw[n];exact J.setCell (p:=⟨w.heap.size+1+1,1,none⟩) Ym _
 have zB:V.heap.size=m.heap.size:=by rw[n];simp
 have O:V.ownsRow (w.heap.size+3) 9 1 (Yz x a.length l) a.length (a.map Value.string):=by rw[n];exact ownsRow_setCell_below z Yu _
 have r1:Bi V (w.heap.size+1) 0 Zb Zb 0 0 0:=by rw[n];exact⟨by simp[go_sem,b0],by simp[go_sem,b1],by simp[go_sem,b2],by simp[go_sem,b3],by simp[go_sem,b4],by simp[go_sem,b5],by simpa using b6⟩
 have r2:Bi V (w.heap.size+1+1) r (Yz x a.length l) (Yz h d.length B) j i s:=by rw[n];exact⟨by simp[go_sem,c0],by simp[go_sem,c1],by simp[go_sem,c2],by simp[go_sem,c3],by simp[go_sem,c4],by simp[go_sem,c5],by simpa using c6⟩
 have k1:∀o,V.frozen? ⟨w.heap.size+1,o,none⟩=false:=fun o=>by rw[n];simp[go_sem,e1]
 have k2:∀o,V.frozen? ⟨w.heap.size+1+1,o,none⟩=false:=fun o=>by rw[n];simp[go_sem,e2]
 have Y:=Yw n;clear n;go_wp2_with (first
  |(at_builtin;refine wpList_append_own _ rfl _ _ 29 rfl m.heap.size 9 i0 Zc 1 16 underlying29 hi R S T rfl Yq _ 0 (([]:Zl).map Value.string) rfl ?e0 ⟨h,0,none⟩ d.length B (d.map Value.string) rfl ?e1 ?e2 ?e3 ?e4 ?e5 ?e6 ?_)
  |go_in)
 all_goals try rw[<-Y.o]
 case e0=>
  have:=World.ownsRow_lit (base:=m.heap.size) (e:=9) (size:=1) V #[] 0 Yv Yo rfl;rw[zB]at this;exact this
 case e1=>simp
 case e2=>exact(hm.below (t.alloc t.size _)).cf
 case e3=>exact PQ d
 case e4=>unfold maxLen;omega
 case e5=>omega
 case e6=>simp;omega
 intro v2 E A L N;have G:∃y C,v2=Yz y d.length C:=by have:=JU A N;simpa using this
 obtain⟨y,C,rfl⟩:=G;try simp only[Nat.zero_add,List.map_nil,List.nil_append]at A
 have c:(V.alloc (.cells #[] 9)).grownBy E (some m.heap.size):=by simpa [Value.ownBlock]using L
 have f:Below V.heap.size V (V.alloc (.cells #[] 9)):=Zy;have s1:=(r1.below f).grown c Yv;have s2:=(r2.below f).grown c Yv;have t2:∀o,E.frozen? ⟨w.heap.size+1+1,o,none⟩=false:=fun o=>(c.frozen_far ⟨w.heap.size+1+1,o,none⟩ Ym Ym).trans ((f.frozen (p:=⟨w.heap.size+1+1,o,none⟩) Ym).trans (k2 o))
 have t1:∀o,E.frozen? ⟨w.heap.size+1,o,none⟩=false:=fun o=>(c.frozen_far ⟨w.heap.size+1,o,none⟩ Ym Ym).trans ((f.frozen (p:=⟨w.heap.size+1,o,none⟩) Ym).trans (k1 o));have K:Below w.heap.size w E:=(t.trans (f.mono t.size)).grown c Yt (fun k U=>by cases U;omega);have ly:=A.lt y rfl
 have P:E.ownsRow (w.heap.size+3) 9 1 (Yz x a.length l) a.length (a.map Value.string):=(O.alloc _).kept c (.inr (by simp[Value.ownBlock];omega));have Q:=A.mono (show w.heap.size+3<=m.heap.size by omega);have zA:x≠y:=Yv
 have H:=Yw (Zn P (Zn Q (Zn zA K)));obtain⟨m0,m1,m2,m3,m4,m5,m6⟩:=s1;obtain⟨n0,n1,n2,n3,n4,n5,n6⟩:=s2;clear a0 a1 a2 a3 a4 a5 a6 b0 b1 b2 b3 b4 b5 b6 c0 c1 c2 c3 c4 c5 c6 P Q A L c f r1 r2 k1 k2 O z t J K Y e1 e2 N;go_wp2
 refine bodyPost_ret (v:=.agg (Ye r (some ⟨x,0,none⟩) a.length l (some ⟨y,0,none⟩) d.length C j i s)) (by simp[results,results133,go_sem,m0,m1,m2,m3,m4,m5]) rfl ⟨x,l,y,C,rfl,?_,?_,H.o.2.2.1,?_⟩
 .refine World.ownsRow.mono ?_ (show w.heap.size<=w.heap.size+3 by omega)
  iterate 7 (refine ownsRow_setCell_below ?_ Yu _)
  exact H.o.1
 .refine World.ownsRow.mono ?_ (show w.heap.size<=w.heap.size+3 by omega)
  iterate 7 (refine ownsRow_setCell_below ?_ Yu _)
  exact H.o.2.1
 .iterate 7 (refine Below.setCell ?_ Ym _)
  exact H.o.2.2.2
section
open Classical in
end
section
open Classical in
noncomputable def shQ (ph:Int) (ks:List Kd) (qs ms:Zl) (s:Zi):Zl:=if ¬ph=0/\Ay ks s/\¬s∈ms/\¬qs.length=23200 then qs++[s]else qs
theorem Vi{b:List Kd}(e:¬d=0)(f:Ay b s)(g:¬s∈c)(h:¬a.length=23200):shQ d b a c s=a++[s]:=if_pos ⟨e,f,g,h⟩
theorem IZ{b:List Kd}(h:d=0\/¬Ay b s\/s∈c\/a.length=23200):shQ d b a c s=a:=if_neg (fun⟨h1,h2,h3,h4⟩=>by rcases h with h|h|h|h;exact h1 h;exact h h2;exact h3 h;exact h4 h)
end
section
attribute [local go_sem↓] Go.wp_at_zero Go.wp_at_succ
theorem KT(V now j d J s c b:Int)(a p l a' p' l':Zk)(ac pc lc zC zH zG:Nat)(z o:List Kd)(C r:List Pd)(B q:List Ld)(w:Zh)(H:AW w w.heap.size a p l z C B)(G:AW w w.heap.size a' p' l' o r q)(hl:z.length<=100000/\C.length<=100000/\B.length<=100000)(yI:o.length<=1048576/\r.length<=1048576/\q.length<=1048576)(P:∀k∈z,k.B.length<=100000)(Q:∀k∈o,k.B.length<=1048576):
 Calls prog 131 #[.agg (Yg V now j d a z.length ac p C.length pc l B.length lc),.agg (Yg J s c b a' o.length zC p' r.length zH l' q.length zG)] w fun e w'=>Ao ((V=J/\now=s/\j=c/\d=b)/\z=o/\C=r/\B=q) w w' e:=by
 obtain⟨W,hW⟩:=Af ((w.alloc (.cells (Yg V now j d a z.length ac p C.length pc l B.length lc) 27)).alloc (.cells (Yg J s c b a' o.length zC p' r.length zH l' q.length zG) 27));have R:=(Bf hW).1;have t:=(Bf hW).2.2.1;have u:Aa W (w.heap.size+1) (Yh J s c b a' o.length zC p' r.length zH l' q.length zG):=by have P:=Aa.new (w.alloc (.cells (Yg V now j d a z.length ac p C.length pc l B.length lc) 27)) (Yh J s c b a' o.length zC p' r.length zH l' q.length zG) 27;rw[World.size_alloc]at P;rw[hW];exact P
 have HX:Hid (∀X,Zz W X->Aa X w.heap.size (Yh V now j d a z.length ac p C.length pc l B.length lc)/\Aa X (w.heap.size+1) (Yh J s c b a' o.length zC p' r.length zH l' q.length zG)/\AW X w.heap.size a p l z C B/\AW X w.heap.size a' p' l' o r q/\Zz w X):=fun X hX=>by have A:=R.trans (hX.mono R.size);exact⟨Aa.below t hX,Aa.below u hX,H.ah A,G.ah A,A⟩
 have zW:=(Bf hW).2.1;obtain⟨zV,_⟩:=t 0 _ rfl;obtain⟨yC,_⟩:=u 0 _ rfl;obtain⟨zX,_⟩:=t 1 _ rfl;obtain⟨yD,_⟩:=u 1 _ rfl;obtain⟨zY,_⟩:=t 2 _ rfl;obtain⟨yE,_⟩:=u 2 _ rfl;obtain⟨zZ,_⟩:=t 3 _ rfl;obtain⟨yF,_⟩:=u 3 _ rfl;obtain⟨K,_⟩:=t 4 _ rfl;obtain⟨L,_⟩:=u 4 _ rfl;obtain⟨yA,_⟩:=t 5 _ rfl;obtain⟨yG,_⟩:=u 5 _ rfl;obtain⟨yB,_⟩:=t 6 _ rfl;obtain⟨yH,_⟩:=u 6 _ rfl;have D:=Yw hW;clear hW H G t u
 by_cases e0:V=J
 .have b0:(V !=J)=false:=by simp[e0]
  have E0:=Yw e0;clear e0;by_cases e1:now=s
  .have b1:(now !=s)=false:=by simp[e1]
   have E1:=Yw e1;clear e1;by_cases e2:j=c
   .have b2:(j !=c)=false:=by simp[e2]
    have E2:=Yw e2;clear e2;by_cases e3:d=b
    .have b3:(d !=b)=false:=by simp[e3]
     have E3:=Yw e3;clear e3;by_cases e4:z.length=o.length
     .have b4:((z.length:Int) !=(o.length:Int))=false:=by simp[e4]
      have E4:=Yw e4;clear e4;by_cases e5:C.length=r.length
      .have b5:((C.length:Int) !=(r.length:Int))=false:=by simp[e5]
       have E5:=Yw e5;clear e5;by_cases e6:B.length=q.length
       .have b6:((B.length:Int) !=(q.length:Int))=false:=by simp[e6]
        have E6:=Yw e6;clear e6;go_enter func131,ntmps131;go_upto_region 1 with fail;rw[<-D.o];clear D;go_wp2;clear b0 b1 b2 b3 b4 b5 b6
        go_loopw [5] (fun i wr=>∃k:Nat,k<=z.length/\i=Zg k/\Hid (z.take k=o.take k/\Zz W wr)) (fun i _=>z.length -(intOf i).toNat)
        case atStart=>exact⟨0,Nat.zero_le _,rfl,⟨Yu,Ad⟩⟩
        case round=>
         clear zV yC zX yD zY yE zZ yF K L yA yG yB yH;obtain⟨k,hk,rfl,v⟩:=hrel;obtain⟨t,u,H,G,g⟩:=HX.o wr v.o.2;have zR:=v.o.2.size;obtain⟨K,_⟩:=t 4 _ rfl;obtain⟨L,_⟩:=u 4 _ rfl;by_cases hlt:k<z.length
         .have f:k<o.length:=by have:=E4.o;omega
          obtain⟨rb,ro,ha,zF,O⟩:=H.k.at hlt;obtain⟨qb,qo,A,zE,N⟩:=G.k.at f;subst ha A;obtain⟨c0,c1,c2,ra,rc,c3,zP⟩:=O k _ (Zv hlt);obtain⟨d0,d1,d2,sa,sc,d3,zO⟩:=N k _ (Zv f);have T:=Zr zF g.size;have S:=Zr zE g.size;have zA:=Yw (Zu hlt);have zB:=Yw (Zu f);have HN:Hid (∀x y,z[k]?=some x->o[k]?=some y->x≠y->z≠o):=fun x y P Q U e=>by subst e;rw[P]at Q;exact U (Option.some.inj Q)
          have E:=Yw (Zv hlt);have F:=Yw (Zv f);have zN:(k:Int)<o.length:=Yv
          have m1:=P _ (List.getElem_mem hlt);have m2:=Q _ (List.getElem_mem f);clear O N;generalize z[k]=x at *
          generalize o[k]=y at *
          have HB:=Yw v.o.2;have HC:Hid (∀n:Ae wr,Calls prog 153 #[.agg #[.string x.F,.slice ra x.B.length rc],.agg #[.string y.F,.slice sa y.B.length sc]] n.w fun e w'=>e=.returned (.bool (decide (x.F=y.F/\x.B=y.B)))/\Below n.w.heap.size n.w w'):=fun n=>by
           have zM:=g.trans (n.h.mono g.size);refine(KH x.F y.F ra sa rc sc x.B y.B n.w ((zP.below (n.h.mono g.size)).mono zM.size) ((zO.below (n.h.mono g.size)).mono zM.size) m1 m2).mono ?_;rintro e w' ⟨bb,rfl,zK,zJ⟩;refine⟨?_,zJ⟩;by_cases hP:x.F=y.F/\x.B=y.B
           .rw[zK.2 hP,decide_eq_true hP]
           .cases bb with
            |true=>exact absurd (zK.1 rfl) hP
            |false=>rw[decide_eq_false hP]
          have q1:=Ae.cell K Yv;have q2:=Ae.cell L Yv;have r0:=Ae.cell c0 T;have s0:=Ae.cell d0 S;have r1:=Ae.cell c1 T;have s1:=Ae.cell d1 S;have r2:=Ae.cell c2 T;have s2:=Ae.cell d2 S;have r3:=Ae.cell c3 T;have s3:=Ae.cell d3 S;have U:=Ae.ne wr;have HE:Hid (∀n:Ae wr,Zz W n.w):=fun n=>HB.o.trans (n.h.mono HB.o.size);clear t u H G zP zO g;by_cases hs:x.sum=y.sum
          .have zT:(x.sum.toList !=y.sum.toList)=false:=by rw[hs];simp
           have zU:(x.sum.toList==y.sum.toList)=true:=by rw[hs];simp
           by_cases A:x.born=y.born
           .have zJ:(x.born !=y.born)=false:=by simp[A]
            have zS:(x.born==y.born)=true:=by simp[A]
            by_cases hP:x.F=y.F/\x.B=y.B
            .rw[decide_eq_true hP]at HC;have M:Hid (x=y):=by obtain⟨e1,e2⟩:=hP;show x=y;cases x;cases y;simp_all
             clear hP hs A;go_wp2;refine Ai Yr Yr ?_
             repeat (go_big_quiet_step (exact Ae.calls (HC.o _)))
             refine wpQuiet_nil ?_;intro n;clear q1 q2 r0 r1 r2 r3 s0 s1 s2 s3 K L c0 c1 c2 c3 d0 d1 d2 d3;go_wp2;exact⟨⟨k+1,Yv,Yn,⟨by rw[zA.o,zB.o,v.o.1,M.o],HE.o n⟩⟩,Ys⟩
            .rw[decide_eq_false hP]at HC;have Z:=Yw hP;clear hP hs A;go_wp2;refine Ai Yr Yr ?_
             repeat (go_big_quiet_step (exact Ae.calls (HC.o _)))
             refine wpQuiet_nil ?_;intro n;have Y:=Yw ((HX.o _ (HE.o n)).2.2.2.2);clear q1 q2 r0 r1 r2 r3 s0 s1 s2 s3 K L c0 c1 c2 c3 d0 d1 d2 d3;go_wp2;go_ret;exact Ao.no (fun h=>HN.o x y E.o F.o (fun e=>Z.o (by rw[e];exact⟨rfl,rfl⟩)) h.2.1) Y.o
           .have zJ:(x.born !=y.born)=true:=by simp[A]
            have zS:(x.born==y.born)=false:=by simp[A]
            have Z:=Yw A;clear A hs;go_wp2;refine Ai Yr Yr ?_
            repeat (go_big_quiet_step (exact Ae.calls (HC.o _)))
            refine wpQuiet_nil ?_;intro n;have Y:=Yw ((HX.o _ (HE.o n)).2.2.2.2);clear q1 q2 r0 r1 r2 r3 s0 s1 s2 s3 K L c0 c1 c2 c3 d0 d1 d2 d3;go_wp2;go_ret;exact Ao.no (fun h=>HN.o x y E.o F.o (fun e=>Z.o (by rw[e])) h.2.1) Y.o
          .have zT:(x.sum.toList !=y.sum.toList)=true:=by simp[bne,Bu hs]
           have zU:=Bu hs;have Z:=Yw hs;clear hs;go_wp2;refine Ai Yr Yr ?_
           repeat (go_big_quiet_step (exact Ae.calls (HC.o _)))
           refine wpQuiet_nil ?_;intro n;have Y:=Yw ((HX.o _ (HE.o n)).2.2.2.2);clear q1 q2 r0 r1 r2 r3 s0 s1 s2 s3 K L c0 c1 c2 c3 d0 d1 d2 d3;go_wp2;go_ret;exact Ao.no (fun h=>HN.o x y E.o F.o (fun e=>Z.o (by rw[e])) h.2.1) Y.o
         .obtain rfl:k=z.length:=Yv
          have m:=v.o.1;rw[Zt (Zx),Zt (by have:=E4.o;omega)]at m;have HK:=Yw m;have zI:=Yw v.o.2;clear m t u H G g;go_wp2
          go_loopw [6] (fun i wr=>∃k:Nat,k<=C.length/\i=Zg k/\Hid (C.take k=r.take k/\Zz W wr)) (fun i _=>C.length -(intOf i).toNat)
          case atStart=>exact⟨0,Nat.zero_le _,rfl,⟨Yu,zI.o⟩⟩
          case round=>
           obtain⟨k,hk,rfl,v⟩:=hrel;obtain⟨t,u,H,G,g⟩:=HX.o wr v.o.2;have zR:=v.o.2.size;obtain⟨K,_⟩:=t 5 _ rfl;obtain⟨L,_⟩:=u 5 _ rfl;by_cases hlt:k<C.length
           .have f:k<r.length:=by have:=E5.o;omega
            obtain⟨rb,ro,ha,zF,O⟩:=H.p.at hlt;obtain⟨qb,qo,A,zE,N⟩:=G.p.at f;subst ha A;obtain⟨c0,c1⟩:=O k _ (Zv hlt);obtain⟨d0,d1⟩:=N k _ (Zv f);have T:=Zr zF g.size;have S:=Zr zE g.size;have zA:=Yw (Zu hlt);have zB:=Yw (Zu f);have HN:Hid (∀x y,C[k]?=some x->r[k]?=some y->x≠y->C≠r):=fun x y P Q U e=>by subst e;rw[P]at Q;exact U (Option.some.inj Q)
            have E:=Yw (Zv hlt);have F:=Yw (Zv f);have zN:(k:Int)<r.length:=Yv
            clear O N;generalize C[k]=x at *
            generalize r[k]=y at *
            have HB:=Yw v.o.2;have I:=Yw g;clear t u H G g;by_cases hxy:x=y
            .subst hxy;go_wp2
             go_region
             all_goals go_wp2
             all_goals exact⟨⟨k+1,Yv,Yn,⟨by rw[zA.o,zB.o,v.o.1],HB.o.drew⟩⟩,Ys⟩
            .have M:=Yw hxy;by_cases n0:x.name=y.name
             .have k0:x.name.toList=y.name.toList:=by rw[n0]
              have n1:¬x.sum=y.sum:=fun e=>hxy (by
               cases x;cases y;simp_all)
              have k1:¬x.sum.toList=y.sum.toList:=fun e=>n1 (Jq e);clear hxy n0 n1;go_wp2
              go_region
              all_goals go_wp2
              all_goals go_ret
              all_goals exact Ao.no (fun h=>HN.o x y E.o F.o M.o h.2.2.1) I.o.drew
             .have k0:¬x.name.toList=y.name.toList:=fun e=>n0 (Jq e);clear n0 hxy;go_wp2
              go_region
              all_goals go_wp2
              all_goals go_ret
              all_goals exact Ao.no (fun h=>HN.o x y E.o F.o M.o h.2.2.1) I.o.drew
           .obtain rfl:k=C.length:=Yv
            have m:=v.o.1;rw[Zt (Zx),Zt (by have:=E5.o;omega)]at m;have HP:=Yw m;have zI:=Yw v.o.2;have I:=Yw g;clear m t u H G g;go_wp2
            go_loopw [7] (fun i wr=>∃k:Nat,k<=B.length/\i=Zg k/\Hid (B.take k=q.take k/\Zz W wr)) (fun i _=>B.length -(intOf i).toNat)
            case atStart=>exact⟨0,Nat.zero_le _,rfl,⟨Yu,zI.o⟩⟩
            case round=>
             obtain⟨k,hk,rfl,v⟩:=hrel;obtain⟨t,u,H,G,g⟩:=HX.o wr v.o.2;have zR:=v.o.2.size;obtain⟨K,_⟩:=t 6 _ rfl;obtain⟨L,_⟩:=u 6 _ rfl;by_cases hlt:k<B.length
             .have f:k<q.length:=by have:=E6.o;omega
              obtain⟨rb,ro,ha,zF,O⟩:=H.l.at hlt;obtain⟨qb,qo,A,zE,N⟩:=G.l.at f;subst ha A;obtain⟨c0,c1,c2⟩:=O k _ (Zv hlt);obtain⟨d0,d1,d2⟩:=N k _ (Zv f);have T:=Zr zF g.size;have S:=Zr zE g.size;have zA:=Yw (Zu hlt);have zB:=Yw (Zu f);have HN:Hid (∀x y,B[k]?=some x->q[k]?=some y->x≠y->B≠q):=fun x y P Q U e=>by subst e;rw[P]at Q;exact U (Option.some.inj Q)
              have E:=Yw (Zv hlt);have F:=Yw (Zv f);have zN:(k:Int)<q.length:=Yv
              clear O N;generalize B[k]=x at *
              generalize q[k]=y at *
              have HB:=Yw v.o.2;have I:=Yw g;clear t u H G g;by_cases hxy:x=y
              .subst hxy;go_wp2
               go_region
               all_goals go_wp2
               all_goals exact⟨⟨k+1,Yv,Yn,⟨by rw[zA.o,zB.o,v.o.1],HB.o.drew⟩⟩,Ys⟩
              .have M:=Yw hxy;by_cases n0:x.I=y.I
               .have k0:=n0;by_cases n1:x.sum=y.sum
                .have k1:x.sum.toList=y.sum.toList:=by rw[n1]
                 have n2:¬x.Y=y.Y:=fun e=>hxy (by
                  cases x;cases y;simp_all)
                 clear hxy n1;go_wp2
                 go_region
                 all_goals go_wp2
                 all_goals go_ret
                 all_goals exact Ao.no (fun h=>HN.o x y E.o F.o M.o h.2.2.2) I.o.drew
                .have k1:¬x.sum.toList=y.sum.toList:=fun e=>n1 (Jq e);clear n1 hxy;go_wp2
                 go_region
                 all_goals go_wp2
                 all_goals go_ret
                 all_goals exact Ao.no (fun h=>HN.o x y E.o F.o M.o h.2.2.2) I.o.drew
               .clear hxy;go_wp2
                go_region
                all_goals go_wp2
                all_goals go_ret
                all_goals exact Ao.no (fun h=>HN.o x y E.o F.o M.o h.2.2.2) I.o.drew
             .obtain rfl:k=B.length:=Yv
              have m:=v.o.1;rw[Zt (Zx),Zt (by have:=E6.o;omega)]at m;have HL:=Yw m;have zI:=Yw v.o.2;have I:=Yw g;clear m t u H G g;go_wp2;go_ret;exact Ao.yes ⟨⟨E0.o,E1.o,E2.o,E3.o⟩,HK.o,HP.o,HL.o⟩ I.o
       .have b6:=bne_iff_ne.2 Yv;go_enter func131,ntmps131;go_upto_region 1 with fail;rw[<-D.o];clear D;go_wp2;go_ret;exact Ao.no (fun h=>e6 (by rw[h.2.2.2])) R
      .have b5:=bne_iff_ne.2 Yv;go_enter func131,ntmps131;go_upto_region 1 with fail;rw[<-D.o];clear D;go_wp2;go_ret;exact Ao.no (fun h=>e5 (by rw[h.2.2.1])) R
     .have b4:=bne_iff_ne.2 Yv;go_enter func131,ntmps131;go_upto_region 1 with fail;rw[<-D.o];clear D;go_wp2;go_ret;exact Ao.no (fun h=>e4 (by rw[h.2.1])) R
    .have b3:(d !=b)=true:=by simp[e3]
     go_enter func131,ntmps131;go_upto_region 1 with fail;rw[<-D.o];clear D;go_wp2;go_ret;exact Ao.no (fun h=>e3 h.1.2.2.2) R
   .have b2:(j !=c)=true:=by simp[e2]
    go_enter func131,ntmps131;go_upto_region 1 with fail;rw[<-D.o];clear D;go_wp2;go_ret;exact Ao.no (fun h=>e2 h.1.2.2.1) R
  .have b1:(now !=s)=true:=by simp[e1]
   go_enter func131,ntmps131;go_upto_region 1 with fail;rw[<-D.o];clear D;go_wp2;go_ret;exact Ao.no (fun h=>e1 h.1.2.1) R
 .have b0:(V !=J)=true:=by simp[e0]
  go_enter func131,ntmps131;go_upto_region 1 with fail;rw[<-D.o];clear D;go_wp2;go_ret;exact Ao.no (fun h=>e0 h.1.1) R
end
section
attribute [local go_sem↓] Go.wp_at_zero Go.wp_at_succ
theorem JL:a.Nodup↔∀(j:Nat) x,a[j]?=some x->x∉a.take j:=by
 unfold List.Nodup;rw[List.pairwise_iff_getElem];constructor
 .intro h j x b k;obtain⟨g,rfl⟩:=Zw b;obtain⟨i,c,e⟩:=List.getElem_of_mem k;have d:i<j:=by simp at c;omega
  rw[List.getElem_take]at e;exact h i j Yv g d e
 .intro h i j c b l e;refine h j a[j] (Zv b) ?_;rw[<-e];have f:i<(a.take j).length:=Yt
  have:=List.getElem_mem f;rw[List.getElem_take]at this;exact this
theorem Ab.front{B:Nat}{a:Zk}(h:Ab w B a c)(K:Nat):Ab w B a (c.take K):=by
 rcases h with h|⟨q,off,d,e,f⟩
 .exact .inl (by simp[h])
 .refine .inr ⟨q,off,d,e,fun i s b=>f i s ?_⟩;have g:=(Zw b).1;simp at g;rw[List.getElem?_take_of_lt Yv]at b;exact b
theorem TD(o now t c q f l r:Int)(T P L:Value)(a b:Zk)(X D:Nat)(m g:Zl)(w:Zh)(hq:Ab w w.heap.size a m)(hm:Ab w w.heap.size b g)(hf:GW m g)(zK:g.length<=D)(zP:c<=1000000000):
 Calls prog 132 #[.agg #[Zg o,Zg now,Zg t,Zg c,T,P,L],.agg (Ye q a m.length X b g.length D f l r)] w fun e w'=>Ao (AK o c q f l r m g) w w' e:=by
 have zS:=hf.q;have zR:=hf.m;obtain⟨W,Y⟩:=Af ((w.alloc (.cells #[Zg o,Zg now,Zg t,Zg c,T,P,L] 27)).alloc (.cells (Ye q a m.length X b g.length D f l r) 31));have d:Below w.heap.size w W:=by rw[Y];exact(Zy).alloc Yu _
 have zG:Aq W w.heap.size o now t c T P L:=by rw[Y];exact(Aq.new w o now t c T P L 27).below (Zy)
 have zF:Bi W (w.heap.size+1) q (.slice a m.length X) (.slice b g.length D) f l r:=by rw[Y];have:=Bi.new (w.alloc (.cells #[Zg o,Zg now,Zg t,Zg c,T,P,L] 27)) q f l r (.slice a m.length X) (.slice b g.length D) 31;rw[World.size_alloc]at this;exact this
 have zJ:W.heap.size=w.heap.size+2:=by rw[Y];simp
 have HW:=Yw Y;clear Y;have z:=Yw zG;have v:=Yw zF;have HQ:=Yw hq;have HM:=Yw hm;clear zG zF hq hm;by_cases p1:q<0
 .have d1:decide (q<0)=true:=by simpa using p1
  go_enter func132,ntmps132;go_wp2;go_ret;rw[<-HW.o];exact Ao.no (P:=AK o c q f l r m g) (fun h=>by rcases h.H with h|h|h<;>(have:=h.1;omega)) d
 have d1:decide (q<0)=false:=by simpa using p1
 by_cases p2:2<q
 .have d2:decide ((2:Int)<q)=true:=by simpa using p2
  go_enter func132,ntmps132;go_wp2;go_ret;rw[<-HW.o];exact Ao.no (P:=AK o c q f l r m g) (fun h=>by rcases h.H with h|h|h<;>(have:=h.1;omega)) d
 have d2:decide ((2:Int)<q)=false:=by simpa using p2
 go_enter func132,ntmps132;go_wp2_with fail;rw[<-HW.o];refine(Cc r 0 1000000000 W).mono ?_;rintro e w1 ⟨rfl,rfl⟩;obtain⟨I,E,F,J,K,M,S⟩:=v.o;by_cases h1:0<=r/\r<=1000000000
 .rw[decide_eq_true h1];by_cases h2:m.length<=23200
  .have B:decide ((23200:Int)<(m.length:Int))=false:=Yt
   by_cases h3:g.length<=600
   .have G:decide ((600:Int)<(g.length:Int))=false:=Yt
    clear HW;go_wp2
    go_loopw [5] (fun i wr=>∃k:Nat,k<=m.length/\i=Zg k/\Hid (∀j x,j<k->m[j]?=some x->(x.size:Int)=o)/\Hid (Aq wr w.heap.size o now t c T P L)/\Hid (Bi wr (w.heap.size+1) q (.slice a m.length X) (.slice b g.length D) f l r)/\Zz w wr) (fun i _=>m.length -(intOf i).toNat)
    case atStart=>exact⟨0,Nat.zero_le _,rfl,fun j x h=>by omega,z,v,d⟩
    case round=>
     clear I E F J K M S z v d zJ;obtain⟨k,hk,rfl,u,z,v,d⟩:=hrel;obtain⟨I,E,F,J,K,M,S⟩:=v.o;obtain⟨N,_,_,U,_,_,_,y7⟩:=z.o;by_cases hlt:k<m.length
     .obtain⟨b',off,ha,hb,hc⟩:=(Ab.below HQ.o d).at hlt;subst ha;have R:=Yw (Zv hlt);have Q:=hc k _ R;have O:=Zr hb d.size;clear hc;generalize m[k]=x at *
      have Z:=Ae.cell E S;have q2:=Ae.cell Q O;have q3:=Ae.cell N y7;have zH:=Ae.ne wr;by_cases h:(x.size:Int)=o
      .have hn:((x.size:Int) !=o)=false:=by simp[h]
       have HA:Hid (∀j y,j<k+1->m[j]?=some y->(y.size:Int)=o):=by
        intro j y hj H;rcases Nat.lt_or_ge j k with C|C
        .exact u j y C H
        .obtain rfl:j=k:=Yv
         rw[R.o]at H;cases H;exact h
       go_wp2;refine Ai Yr Yr ?_
       repeat (go_big_quiet_step (fail))
       refine wpQuiet_nil ?_;intro n;have zB:=Yw (Aq.ah z.o n.h y7);have zA:=Yw (Bi.ah v.o n.h S);have A:=d.trans (n.h.mono d.size);clear Z q2 q3 I E F J K M N U Q;go_wp2;exact⟨⟨k+1,Yv,Yn,HA,zB,zA,A⟩,Ys⟩
      .have hn:((x.size:Int) !=o)=true:=by simp[h]
       go_wp2;refine Ai Yr Yr ?_
       repeat (go_big_quiet_step (fail))
       refine wpQuiet_nil ?_;intro n;have A:=d.trans (n.h.mono d.size);clear Z q2 q3 I E F J K M N U Q;go_wp2;go_ret;exact Ao.no (P:=AK o c q f l r m g) (fun C=>h (C.bz.q x (Zs R.o))) A
     .have zC:Hid (∀s∈m,(s.size:Int)=o):=by intro s hs;obtain⟨j,hj,rfl⟩:=List.getElem_of_mem hs;exact u j _ Yv (Zv hj)
      clear u;go_wp2
      go_loopw [6] (fun i wr=>∃k:Nat,k<=g.length/\i=Zg k/\Hid (∀j x,j<k->g[j]?=some x->(x.size:Int)=o/\x∉g.take j)/\Hid (Aq wr w.heap.size o now t c T P L)/\Hid (Bi wr (w.heap.size+1) q (.slice a m.length X) (.slice b g.length D) f l r)/\Zz w wr) (fun i _=>g.length -(intOf i).toNat)
      case atStart=>exact⟨0,Nat.zero_le _,rfl,fun j x h=>by omega,z,v,d⟩
      case round=>
       clear I E F J K M S N U y7 z v d;obtain⟨k,hk,rfl,u,z,v,d⟩:=hrel;obtain⟨I,E,F,J,K,M,S⟩:=v.o;obtain⟨N,_,_,U,_,_,_,y7⟩:=z.o;by_cases hlt:k<g.length
       .obtain⟨b',off,ha,hb,hc⟩:=(Ab.below HM.o d).at hlt;subst ha;have R:=Yw (Zv hlt);have Q:=hc k _ R;have O:=Zr hb d.size;clear hc;generalize g[k]=x at *
        have Z:=Ae.cell F S;have q2:=Ae.cell Q O;have q3:=Ae.cell N y7;have zH:=Ae.ne wr;have zI:(g.take k).length=k:=Yt
        have hH:∀n:Ae wr,Calls prog 27 #[.slice (some ⟨b',off,none⟩) k D,.string x] n.w fun e w'=>e=.returned (.bool ((g.take k).any (fun y=>decide (y=x))))/\Below n.w.heap.size n.w w':=fun n=>by have:=Dq (some ⟨b',off,none⟩) D (g.take k) x n.w w.heap.size (Ab.front (Ab.below HM.o (d.trans (n.h.mono d.size))) k) Yv;rw[zI]at this;exact this.mono (by rintro e w' ⟨rfl,rfl⟩;exact⟨rfl,Ad⟩)
        have HH:=Yw hH;clear hH;have zT:k<=D:=Yv
        by_cases h:(x.size:Int)=o
        .have hn:((x.size:Int) !=o)=false:=by simp[h]
         cases hin:(g.take k).any (fun y=>decide (y=x))with
         |false=>
          rw[hin]at HH;have V:x∉g.take k:=fun hx=>by have:(g.take k).any (fun y=>decide (y=x))=true:=List.any_eq_true.2 ⟨x,hx,Yu⟩;rw[hin]at this;cases this
          have HA:Hid (∀j y,j<k+1->g[j]?=some y->(y.size:Int)=o/\y∉g.take j):=by
           intro j y hj H;rcases Nat.lt_or_ge j k with C|C
           .exact u j y C H
           .obtain rfl:j=k:=Yv
            rw[R.o]at H;cases H;exact⟨h,V⟩
          clear V u;go_wp2;refine Ai Yr Yr ?_
          repeat (go_big_quiet_step (exact Ae.calls (HH.o _)))
          refine wpQuiet_nil ?_;intro n;have zB:=Yw (Aq.ah z.o n.h y7);have zA:=Yw (Bi.ah v.o n.h S);have A:=d.trans (n.h.mono d.size);clear Z q2 q3 I E F J K M N U Q;go_wp2;exact⟨⟨k+1,Yv,Yn,HA,zB,zA,A⟩,Ys⟩
         |true=>
          rw[hin]at HH;have HN:Hid (x∈g.take k):=by
           obtain⟨y,H,e⟩:=List.any_eq_true.1 hin;have:y=x:=by simpa using e
           rw[<-this];exact H
          clear u;go_wp2;refine Ai Yr Yr ?_
          repeat (go_big_quiet_step (exact Ae.calls (HH.o _)))
          refine wpQuiet_nil ?_;intro n;have A:=d.trans (n.h.mono d.size);clear Z q2 q3 I E F J K M N U Q;go_wp2;go_ret;exact Ao.no (P:=AK o c q f l r m g) (fun C=>(JL.1 C.bz.nd) k x R.o HN.o) A
        .have hn:((x.size:Int) !=o)=true:=by simp[h]
         go_wp2;refine Ai Yr Yr ?_
         repeat (go_big_quiet_step (fail))
         refine wpQuiet_nil ?_;intro n;have A:=d.trans (n.h.mono d.size);clear Z q2 q3 I E F J K M N U Q;go_wp2;go_ret;exact Ao.no (P:=AK o c q f l r m g) (fun C=>h (C.bz.m x (Zs R.o))) A
       .have HS:Hid (Nx o m g):=by refine⟨h2,h3,zC.o,fun s hs=> ?_,JL.2 fun j x hx=>(u j x (by have:=(Zw hx).1;omega) hx).2⟩;obtain⟨j,hj,rfl⟩:=List.getElem_of_mem hs;exact(u j _ Yv (Zv hj)).1
        clear u zC;by_cases p0:q=0
        .subst p0;by_cases e1:m.length=0
         .by_cases B:g.length=0
          .by_cases G:f=0
           .by_cases e4:l=0
            .go_wp2;go_ret;exact Ao.yes (P:=AK o c 0 f l r m g) ⟨h1.1,h1.2,HS.o,.inl ⟨rfl,List.eq_nil_of_length_eq_zero e1,List.eq_nil_of_length_eq_zero B,G,e4⟩⟩ d
            .have zO:(l==0)=false:=by simpa using e4
             go_wp2;go_ret;exact Ao.no (P:=AK o c 0 f l r m g) (fun h=>by have:=h.H;unfold DY at this;simp at this;have h9:=this.2.2.2;omega) d
           .have zE:(f==0)=false:=by simpa using G
            go_wp2;go_ret;exact Ao.no (P:=AK o c 0 f l r m g) (fun h=>by have:=h.H;unfold DY at this;simp at this;have h9:=this.2.2.1;omega) d
          .have zN:=beq_eq_false_iff_ne.2 Yv;go_wp2;go_ret;exact Ao.no (P:=AK o c 0 f l r m g) (fun h=>by have:=h.H;unfold DY at this;simp at this;exact B (by rw[this.2.1];rfl)) d
         .have zM:=beq_eq_false_iff_ne.2 Yv;go_wp2;go_ret;exact Ao.no (P:=AK o c 0 f l r m g) (fun h=>by have:=h.H;unfold DY at this;simp at this;exact e1 (by rw[this.1];rfl)) d
        .have zV:(q==0)=false:=by simpa using p0
         go_wp2_with fail;refine(Cc f 0 c wr).mono ?_;rintro e w1 ⟨rfl,rfl⟩;by_cases e1:0<=f/\f<=c
         .rw[decide_eq_true e1];have zU:=Gg Yv Yv;go_wp2_with fail;refine(Cc l 1 (f+1) _).mono ?_;rintro e w1 ⟨rfl,rfl⟩;by_cases B:1<=l/\l<=f+1
          .rw[decide_eq_true B];by_cases p3:q=2
           .subst p3;go_wp2;go_ret;exact Ao.yes (P:=AK o c 2 f l r m g) ⟨h1.1,h1.2,HS.o,.inr (.inr ⟨rfl,e1.1,e1.2,B.1,B.2⟩)⟩ d
           .have zW:(q==2)=false:=by simpa using p3
            obtain rfl:q=1:=Yv
            by_cases G:l=f+1
            .have zE:(l==f+1)=true:=by simpa using G
             go_wp2;go_ret;exact Ao.yes (P:=AK o c 1 f l r m g) ⟨h1.1,h1.2,HS.o,.inr (.inl ⟨rfl,e1.1,e1.2,G⟩)⟩ d
            .have zE:(l==f+1)=false:=by simpa using G
             go_wp2;go_ret;exact Ao.no (P:=AK o c 1 f l r m g) (fun h=>by have:=h.H;unfold DY at this;simp at this;exact G this.2.2) d
          .rw[decide_eq_false B];go_wp2;go_ret;exact Ao.no (P:=AK o c q f l r m g) (fun h=>by rcases h.H with h|h|h;exact p0 h.1;exact B (by have:=h.2.2.2;omega);exact B h.2.2.2) d
         .rw[decide_eq_false e1];go_wp2;go_ret;exact Ao.no (P:=AK o c q f l r m g) (fun h=>by rcases h.H with h|h|h;exact p0 h.1;exact e1 ⟨h.2.1,h.2.2.1⟩;exact e1 ⟨h.2.1,h.2.2.1⟩) d
   .have G:decide ((600:Int)<(g.length:Int))=true:=Yt
    go_wp2;go_ret;exact Ao.no (P:=AK o c q f l r m g) (fun h=>h3 h.bz.nm) d
  .have B:decide ((23200:Int)<(m.length:Int))=true:=Yt
   go_wp2;go_ret;exact Ao.no (P:=AK o c q f l r m g) (fun h=>h2 h.bz.nq) d
 .rw[decide_eq_false h1];go_wp2;go_ret;exact Ao.no (P:=AK o c q f l r m g) (fun h=>h1 ⟨h.iu,h.ix⟩) d
end
def Fy(d:Nat)(ph:Int)(Q M:Value)(top at_ ro:Int)(mm:Nat)(D:Value):Zj:=[.pointer (some ⟨d,0,none⟩),Zg ph,Q,M,Zg top,Zg at_,Zg ro,.map (some mm),D]
theorem Sb{c a:Int}(h:Bi w b d Q M c a e):w.cell? (Zd b 0)=some (Zg d)/\w.cell? (Zd b 1)=some Q/\w.cell? (Zd b 2)=some M/\w.cell? (Zd b 3)=some (Zg c)/\w.cell? (Zd b 4)=some (Zg a)/\w.cell? (Zd b 5)=some (Zg e):=
 ⟨h.1,h.2.1,h.2.2.1,h.2.2.2.1,h.2.2.2.2.1,h.2.2.2.2.2.1⟩
def FH(w:Zh)(c:Nat):Prop:=∃cur fz,w.heap[c]?=some (.cells cur 59 fz)
theorem FH.same{d:Zh}{c:Nat}(h:FH w c)(e:d.heap[c]?=w.heap[c]?):FH d c:=by obtain⟨a,b,h⟩:=h;exact⟨a,b,e.trans h⟩
theorem FH.set{c:Nat}(h:FH w c)(j:Nat)(v:Value):FH (w.setCell (Zd c j) v) c:=by obtain⟨a,b,h⟩:=h;refine⟨a.setIfInBounds j v,b,?_⟩;simp[World.setCell,Array.getElem?_modify,h]
theorem NK{a:Nat}{e:TypeId}{size:Nat}{v:Value}{n:Nat}{c:Zj}(h:w.ownsRow b e size v n c)(i:a<=b):w.ownsRow a e size v n c:=by
 refine⟨h.1,?_⟩;rcases h.2 with j|⟨g,cap,d,k,f,rest⟩
 .exact .inl j
 .exact .inr ⟨g,cap,d,k,Zm i f,rest⟩
end Go.Proofs.YtcfjcdpkpiidkaaGreat
