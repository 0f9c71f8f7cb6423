import Derived.Test.YtcankpdbabaacaaGreatDoorX30
import Derived.Conc.RwLib
import Derived.Conc.MuLone
import Derived.KernelRfl
set_option maxRecDepth 100000
set_option maxHeartbeats 16000000
namespace Go.Proofs.YtcankpdbabaacaaGreatDoor
open Go.ChangeShapes Go.WideShapes Go.ChangeAt Go.RowKit _root_.Go.Proofs.Tryz
variable{b d a size n:Nat}{c:Zj}{e:TypeId}{Q M v P L S U:Value}{wr X:Zh}
def WD(ks:List Kd)(ps:List Pd)(ls:List Ld)(ph at_:Int)(qs ms:Zl):Prop:=ph≠0/\qs=[]/\∃u,Gs ks at_ u/\u.sum∉ms/\¬CV ps ls ks u.sum
theorem Oc(c d:Nat)(n j f q:Int)(o k:Zk)(p l:Nat)(D:Value)(m:Nat)(b a:Zl)(w:Zh)(h:Aa w c (GM d n (.slice o b.length p) (.slice k a.length l) j f q m D)):
 Calls prog 75 #[Yz c] w fun e r=>e=.returned (.bool (decide (23200<b.length\/600<a.length)))/\r=w:=by
 obtain⟨s,_⟩:=h 2 _ rfl;obtain⟨t,_⟩:=h 3 _ rfl;by_cases h1:23200<b.length
 .have g:(23200:Int)<b.length:=Yw
  rw[decide_eq_true (.inl h1)];go_enter func75,ntmps75;go_wp2;go_ret;exact⟨rfl,rfl⟩
 .have g:¬(23200:Int)<b.length:=Yw
  by_cases h2:600<a.length
  .have i:(600:Int)<a.length:=Yw
   rw[decide_eq_true (.inr h2)];go_enter func75,ntmps75;go_wp2;go_ret;exact⟨rfl,rfl⟩
  .have i:¬(600:Int)<a.length:=Yw
   rw[decide_eq_false Yw];go_enter func75,ntmps75;go_wp2;go_ret;exact⟨rfl,rfl⟩
theorem Od(A B c d m:Nat)(O P L:Value)(Z zE j f:Int)(g:List Kd)(q:List Pd)(p:List Ld)(C zJ a ro:Int)(Q M D:Value)(mm:Nat)(qs l ds:Zl)(w:Zh)(h:CM w A B c d m O P L Z zE j f g q p C zJ a ro Q M D mm qs l l ds)(s:Dj Z g)(zO:∀k∈g,1<=k.born)(hp:q.length<=100)(hl:p.length<=200)(zS:∀x∈l,(x.size:Int)=Z)(zT:∀x∈g,∀y∈g,x.born=y.born->x=y):
 Calls prog 73 #[Yz c] w fun e i=>Ap (WD g q p C a qs l) w i e:=by
 obtain⟨q1,_⟩:=h.box 1 _ rfl;obtain⟨qa,qc,rfl,_⟩:=h.q.row;obtain⟨q2,_⟩:=h.box 2 _ rfl;by_cases hp0:C=0
 .have S:¬WD g q p C a qs l:=fun h=>h.1 hp0;have K:=Yx S;subst hp0;clear h S;go_enter func73,ntmps73;go_wp2;go_ret;exact⟨false,rfl,⟨(fun e=>by cases e),fun e=>absurd e K.o⟩,Below.refl _ _⟩
 have zV:(C==0)=false:=by simpa using hp0
 by_cases hq0:qs=[]
 .subst hq0;have HS:Hid (∀X,Zz w X->X.cell? (Ze c 0)=some (Yz d)/\X.cell? (Ze c 5)=some (Zg a)):=fun X hX=>⟨((h.box.below hX) 0 _ rfl).1,((h.box.below hX) 5 _ rfl).1⟩
  have HY:Hid (∀X,Zz w X->Calls prog 120 #[Yz d,Zg a] X fun e i=>∃u ra G,e=.returned (.tuple #[CA u ra G,.bool (decide (0<u.born))])/\YB g a u ra G/\Zz X i):=fun X hX=>Ka A d m O P L Z zE j f a g q p X (h.I.below hX) s.nd s.sz s.len zO;have HC:=Yx h;have D0:Below w.heap.size w w.drew:=(Below.refl _ _).drew;have D1:∀o,Zz w (w.alloc o).drew:=fun o=>(Zy).drew;have zX:=h.box.lt;have zP:Hid (C≠0):=hp0
  clear h;unfold CA at HY;go_enter func73,ntmps73;go_upto_region 3 with fail;go_cut [3,4] (fun v t wx=>∃(kb:Nat) (u:Kd) (ra:Zk) (G:Nat),v=Yz kb/\t=.bool (decide (0<u.born))/\Hid (Aa wx kb [.string u.sum,Zg u.born,.string u.M,.slice ra u.B.length G]/\YB g a u ra G/\Zz w wx/\w.heap.size<=kb))
  case first=>
   go_region_held3 (fun X=>X.cell? (Ze c 0)=some (Yz d)/\X.cell? (Ze c 5)=some (Zg a))
    (first|with_reducible exact HS.o _ D0|with_reducible exact HS.o _ (D1 _)|with_reducible exact HS.o _ B2|with_reducible exact HS.o _ (zK _)|with_reducible exact HS.o _ (zM _ _ _ _))
    (first
      |(go_at_call 120;refine Calls.mono (HY.o _ D0) ?_;rintro e Y ⟨u,ra,G,rfl,hY,zB⟩;have B2:Below w.heap.size w Y:=D0.trans (zB.mono D0.size);have zK:∀o,Zz w (Y.alloc o):=fun o=>B2.alloc B2.size o)
      |(go_at_call 120;refine Calls.mono (HY.o _ (D1 _)) ?_;rintro e Y ⟨u,ra,G,rfl,hY,zB⟩;have B2:Below w.heap.size w Y:=(D1 _).trans (zB.mono (D1 _).size);have n0:Aa Y w.heap.size Nu:=Aa.below (v:=Zd) (Aa.new w Nu 99) (Cp zB);have zM:∀v0 v1 v2 v3,Zz w ((((Y.setCell (Ze (w.heap.size) 0) v0).setCell (Ze (w.heap.size) 1) v1).setCell (Ze (w.heap.size) 2) v2).setCell (Ze (w.heap.size) 3) v3):=fun _ _ _ _=>(((B2.setCell Yv _).setCell Yv _).setCell Yv _).setCell Yv _;obtain⟨m0,I⟩:=n0 0 _ rfl;obtain⟨m1,k1⟩:=n0 1 _ rfl;obtain⟨m2,k2⟩:=n0 2 _ rfl;obtain⟨m3,k3⟩:=n0 3 _ rfl))
   all_goals
    go_wp2_with fail;go_meet
    first
     |exact⟨_,u,ra,G,rfl,rfl,⟨(((n0.set 0 _).set 1 _).set 2 _).set 3 _,hY,zM _ _ _ _,Zx⟩⟩
     |exact⟨_,u,ra,G,rfl,rfl,⟨Aa.new Y _ _,hY,zK _,B2.size⟩⟩
  case rest=>
   revert wc;intro E hcut;obtain⟨kb,u,ra,G,rfl,rfl,HK⟩:=hcut;clear HS HY D0 D1 q1 q2;have r:=HK.o.2.2.1;have U:=HC.o.below r;obtain⟨I,_⟩:=HK.o.1 0 _ rfl;obtain⟨V,_⟩:=U.box 0 _ rfl;have zC:=Aa.lt HK.o.1;have zH:=U.box.lt;have zY:¬kb=c:=by have:=HK.o.2.2.2;omega
   obtain⟨nk,cc,fk,zG,zN,_⟩:=U.fw;have h8:=s.w8;rcases HK.o.2.1 with⟨hu,_,_,zA⟩|⟨hu,zI,z⟩
   .have hd:decide (0<u.born)=false:=by rw[hu];rfl
    have K:Hid (¬WD g q p C a [] l):=fun⟨_,_,y,hy,_⟩=>zA y hy.1 hy.2.1;have H:Hid (∀n:Ar E,True):=fun _=>trivial;clear zA hu U;have W:=Ar.cell I zC;have F:=Ar.ne E;clear I V;go_upto_region 4 with fail;rw[hd];refine Au Yt Yt ?_
    repeat (go_big_quiet_step (fail))
    refine wpQuiet_nil ?_;intro n;clear W F H;go_wp2;go_ret;exact⟨false,rfl,⟨(fun e=>by cases e),fun e=>absurd e K.o⟩,r.trans (n.h.mono r.size)⟩
   .have hd:decide (0<u.born)=true:=by have:=zO u hu;simp;omega
    have zR:Hid (Gs g a u):=⟨hu,zI,z⟩;have zF:Hid (WD g q p C a [] l↔u.sum∉l/\¬CV q p g u.sum):=⟨fun⟨_,_,y,hy,h1,h2⟩=>by
     have e:y=u:=zT y hy.1 u hu (by have:=z y hy.1 hy.2.1;have:=hy.2.2 u hu zI;omega);rw[e]at h1 h2;exact⟨h1,h2⟩,fun h=>⟨zP.o,rfl,u,zR.o,h.1,h.2⟩⟩
    have zU:=s.sz u hu;have J:Hid (∀n:Ar E,Calls prog 121 #[Yz c,.string u.sum] n.w fun e i=>Ap (u.sum∈l) n.w i e):=fun n=>
     FU c d C zJ a ro _ M D mm nk cc fk Z l u.sum n.w (U.box.below n.h) (zG.ah n.h zG.lt) zN zS zU h8
    have R:Hid (∀n:Ar E,Calls prog 122 #[Yz d,.string u.sum] n.w fun e i=>∃ok,e=.returned (.bool ok)/\(ok=true↔CV q p g u.sum)/\Below n.w.heap.size n.w i):=fun n=>Iv A d m O P L Z zE j f g q p u.sum n.w (U.I.below n.h) s.nd s.sz s.B s.len hp hl;clear zI z zG zN U;by_cases hmk:u.sum∈l
    .have HI:Hid (u.sum∈l):=hmk;have H:Hid (∀n:Ar E,Calls prog 121 #[Yz c,.string u.sum] n.w fun e i=>e=.returned (.bool true)/\Below n.w.heap.size n.w i):=fun n=>(J.o n).mono (fun e i ⟨b,he,hb,hbb⟩=>⟨by rw[he,hb.2 HI.o],hbb⟩);have T:Hid True:=trivial;clear hmk R;have W:=Ar.cell I zC;have q0:=Ar.cell V zH;have F:=Ar.ne E;clear I V J;go_upto_region 4 with fail;rw[hd]
     refine Au Yt Yt ?_
     repeat (go_big_quiet_step (first|exact Ar.calls (H.o _)))
     refine wpQuiet_nil ?_;intro n;clear W q0 F H T;go_wp2;go_ret;exact⟨false,rfl,⟨(fun e=>by cases e),fun e=>absurd HI.o (zF.o.1 e).1⟩,r.trans (n.h.mono r.size)⟩
    .have HI:Hid (u.sum∉l):=hmk;have H:Hid (∀n:Ar E,Calls prog 121 #[Yz c,.string u.sum] n.w fun e i=>e=.returned (.bool false)/\Below n.w.heap.size n.w i):=fun n=>(J.o n).mono (fun e i ⟨b,he,hb,hbb⟩=>⟨by
      cases b with
      |true=>exact absurd (hb.1 rfl) HI.o
      |false=>exact he,hbb⟩)
     by_cases hin:CV q p g u.sum
     .have N:Hid (CV q p g u.sum):=hin;have T:Hid (∀n:Ar E,Calls prog 122 #[Yz d,.string u.sum] n.w fun e i=>e=.returned (.bool true)/\Below n.w.heap.size n.w i):=fun n=>(R.o n).mono (fun e i ⟨b,he,hb,hbb⟩=>⟨by rw[he,hb.2 N.o],hbb⟩);clear hmk hin R;have W:=Ar.cell I zC;have q0:=Ar.cell V zH;have F:=Ar.ne E;clear I V J;go_upto_region 4 with fail;rw[hd]
      refine Au Yt Yt ?_
      repeat (go_big_quiet_step (first|exact Ar.calls (H.o _)|exact Ar.calls (T.o _)))
      refine wpQuiet_nil ?_;intro n;clear W q0 F H T;go_wp2;go_ret;exact⟨false,rfl,⟨(fun e=>by cases e),fun e=>absurd N.o (zF.o.1 e).2⟩,r.trans (n.h.mono r.size)⟩
     .have N:Hid (¬CV q p g u.sum):=hin;have T:Hid (∀n:Ar E,Calls prog 122 #[Yz d,.string u.sum] n.w fun e i=>e=.returned (.bool false)/\Below n.w.heap.size n.w i):=fun n=>(R.o n).mono (fun e i ⟨b,he,hb,hbb⟩=>⟨by
       cases b with
       |true=>exact absurd (hb.1 rfl) N.o
       |false=>exact he,hbb⟩)
      clear hmk hin R;have W:=Ar.cell I zC;have q0:=Ar.cell V zH;have F:=Ar.ne E;clear I V J;go_upto_region 4 with fail;rw[hd];refine Au Yt Yt ?_
      repeat (go_big_quiet_step (first|exact Ar.calls (H.o _)|exact Ar.calls (T.o _)))
      refine wpQuiet_nil ?_;intro n;clear W q0 F H T;go_wp2;go_ret;exact⟨true,rfl,⟨(fun _=>zF.o.2 ⟨HI.o,N.o⟩),fun _=>rfl⟩,r.trans (n.h.mono r.size)⟩
 .have S:¬WD g q p C a qs l:=fun h=>hq0 h.2.1;have K:=Yx S;have zW:(0:Int)<qs.length:=by have:=List.length_pos_iff.2 hq0;omega
  clear h S hq0;go_enter func73,ntmps73;go_wp2;go_ret;exact⟨false,rfl,⟨(fun e=>by cases e),fun e=>absurd e K.o⟩,Below.refl _ _⟩
theorem XM{w:Zh}{d c a e:Int}(h:Cm w b d Q M c a e):w.cell? (Ze b 0)=some (Zg d)/\w.cell? (Ze b 1)=some Q/\w.cell? (Ze b 2)=some M/\w.cell? (Ze b 3)=some (Zg c)/\w.cell? (Ze b 4)=some (Zg a)/\w.cell? (Ze b 5)=some (Zg e):=
 ⟨h.1,h.2.1,h.2.2.1,h.2.2.2.1,h.2.2.2.2.1,h.2.2.2.2.2.1⟩
def Kb(w:Zh)(c:Nat):Prop:=∃cur fz,w.heap[c]?=some (.cells cur 139 fz)
theorem Kb.same{w d:Zh}{c:Nat}(h:Kb w c)(e:d.heap[c]?=w.heap[c]?):Kb d c:=by obtain⟨a,b,h⟩:=h;exact⟨a,b,e.trans h⟩
theorem Kb.set{w:Zh}{c:Nat}(h:Kb w c)(j:Nat)(v:Value):Kb (w.setCell (Ze c j) v) c:=by obtain⟨a,b,h⟩:=h;refine⟨a.setIfInBounds j v,b,?_⟩;simp[World.setCell,Array.getElem?_modify,h]
theorem PJ{w:Zh}(h:w.ownsRow b e size v n c)(i:a<=b):w.ownsRow a e size v n c:=by
 refine⟨h.1,?_⟩;rcases h.2 with j|⟨g,cap,d,k,f,rest⟩
 .exact .inl j
 .exact .inr ⟨g,cap,d,k,Zm i f,rest⟩
theorem Mz(d:Nat)(r j i s:Int)(g h C D:Nat)(b a:Zl)(w:Zh)(hq:Ad w w.heap.size (some ⟨g,0,none⟩) b)(hm:Ad w w.heap.size (some ⟨h,0,none⟩) a)(hf:IC b a):
 Calls prog 71 #[Yz d,.agg (Ya r (some ⟨g,0,none⟩) b.length C (some ⟨h,0,none⟩) a.length D j i s)] w fun e G=>∃c x z y A m n K f,e=.returned (Yz c)/\Aa G c (GM d r (Za x b.length z) (Za y a.length A) j i s m Zc)/\
  G.ownsRow w.heap.size 9 1 (Za x b.length z) b.length (b.map Value.string)/\G.ownsRow w.heap.size 9 1 (Za y a.length A) a.length (a.map Value.string)/\AV G 183 m n K f/\MK a f K/\n<=a.length/\Kb G c/\[c,x,y,m].Nodup/\w.heap.size<=c/\w.heap.size<=m/\Zz w G:=by
 obtain⟨W,O⟩:∃W,W=w.alloc (.cells (Ya r (some ⟨g,0,none⟩) b.length C (some ⟨h,0,none⟩) a.length D j i s) 41):=⟨_,rfl⟩;have k:Below w.heap.size w W:=by rw[O];exact Zy
 have Z:Cm W w.heap.size r (Za g b.length C) (Za h a.length D) j i s:=by rw[O];exact⟨Yv,Yv,Yv,Yv,Yv,Yv,Yv⟩
 have Y:=Yx Z;have S0:=XM (w:=W.drew) Z;have V:Below W.heap.size W W.drew:=(Below.refl _ _).drew;have HQ:Hid (Ad W.drew W.drew.heap.size (some ⟨g,0,none⟩) b):=Ad.mono (Ad.below hq k.drew) k.size;have HM:Hid (∀X,Zz W X->Ad X X.heap.size (some ⟨h,0,none⟩) a):=fun X hX=>Ad.mono (Ad.below hm (k.trans (hX.mono k.size))) (k.trans (hX.mono k.size)).size;have HW:=Yx O;clear O hq hm Z
 go_enter func71,ntmps71;go_upto_region 1 with fail;rw[<-HW.o];clear HW;go_region_held3 (fun X=>X.cell? (Ze (w.heap.size) 0)=some (Zg r)/\X.cell? (Ze (w.heap.size) 1)=some (Za g b.length C)/\X.cell? (Ze (w.heap.size) 2)=some (Za h a.length D)/\X.cell? (Ze (w.heap.size) 3)=some (Zg j)/\X.cell? (Ze (w.heap.size) 4)=some (Zg i)/\X.cell? (Ze (w.heap.size) 5)=some (Zg s))
  (first|with_reducible exact S0|with_reducible exact S1|with_reducible exact S2|with_reducible exact S3 _)
  (first
    |(go_at_call 118;refine(LZ r j i s g h C D b a W.drew HQ.o (HM.o _ V) hf).mono ?_;rintro e w1 ⟨x,z,y,A,rfl,E,F,N,u⟩;have H:Below W.heap.size W w1:=V.trans (u.mono V.size);have S1:=XM (Cm.below Y.o H);have P:=HM.o _ H;have H1:=Yx (Zn E (Zn F (Zn N u)));clear E F N u)
    |(go_at_call 119;refine(ID r j i s (some ⟨g,0,none⟩) (some ⟨h,0,none⟩) b.length C D a w1 P (by have:=hf.m;omega)).mono ?_;rintro e p ⟨m,K,f,rfl,M,B,L,l⟩;have I:Below W.heap.size W p:=H.trans (l.mono H.size);have S2:=XM (Cm.below Y.o I);have S3:∀o,_:=fun o=>XM (w:=p.alloc o) (Cm.below Y.o (I.alloc I.size o));have H2:=Yx (Zn M (Zn B (Zn L l)));clear M B L l))
 obtain⟨E,F,N,u⟩:=H1.o;obtain⟨M,B,L,l⟩:=H2.o;obtain⟨q,t⟩:∃q,q=p.alloc (.cells #[Yz d,Zg r,Za x b.length z,Za y a.length A,Zg j,Zg i,Zg s,.map (some m),Zc] 139):=⟨_,rfl⟩;have J:Below p.heap.size p q:=by rw[t];exact Zy
 have z3:Aa q p.heap.size (GM d r (Za x b.length z) (Za y a.length A) j i s m Zc):=by rw[t];exact Aa.new p _ _
 have S:w.heap.size<=W.drew.heap.size:=k.size;have z12:=l.size;have zE:=I.size;have lx:_<=x/\x<_:=Ac E rfl;have ly:_<=y/\y<_:=Ac F rfl;have lm:=B.lt;have zC:Kb q p.heap.size:=by rw[t];exact⟨_,_,heap_alloc_new p _⟩
 have T:q.ownsRow w.heap.size 9 1 (Za x b.length z) b.length (b.map Value.string):=PJ (Ae (Ae E l) J) S;have U:q.ownsRow w.heap.size 9 1 (Za y a.length A) a.length (a.map Value.string):=PJ (Ae (Ae F l) J) S;have Q:AV q 183 m a.length K f:=B.ah J B.lt;have HE:Hid (Zz w q):=(k.trans (I.mono k.size)).trans (J.mono (by have:=k.size;omega));have R:[p.heap.size,x,y,m].Nodup:=Yu
 have v:=Yx (Zn z3 (Zn T (Zn U (Zn Q (Zn L (Zn zC R))))));have zA:w.heap.size<=p.heap.size:=by have:=k.size;omega
 have zB:w.heap.size<=m:=by have:=k.size;have:=H.size;omega
 rw[<-t];clear t J z3 E F B T U Q L R u l S0 S1 S2 S3 lx ly lm H1 H2 P;go_wp2;go_ret;exact⟨_,x,z,y,A,m,_,K,f,rfl,v.o.1,v.o.2.1,v.o.2.2.1,v.o.2.2.2.1,v.o.2.2.2.2.1,Zx,v.o.2.2.2.2.2.1,v.o.2.2.2.2.2.2,zA,zB,HE.o⟩
theorem Dr.db{w:Zh}{g m:Nat}{O:Value}{t v i c:Int}{r:List Kd}{E:List Pd}{D:List Ld}(h:Dr w g d m O P L t v i c r E D):DB w g w.heap.size d m O P L t c r:=by
 obtain⟨n,f,y,z,o⟩:=h.map;refine⟨h.cf,n,f,y,z,o,fun s C u ra K e p q J=> ?_⟩;rcases o s C with⟨x,_⟩|⟨M,H,I,_,_,F,j⟩
 .rw[x]at e;cases e
 .rw[F]at e;simp only[CA,Option.some.injEq,Value.agg.injEq]at e;have k:=congrArg (fun a=>a[3]?) e;simp at k;obtain⟨rfl,l,rfl⟩:=k;rcases j with j|⟨b,G,A,B,_⟩
  .rw[j]at l;simp at l;omega
  .rw[A]at q;cases q;exact B
theorem PK(i d m:Nat)(O P L:Value)(I r b a:Int)(F:List Kd)(H:List Pd)(G:List Ld)(v o l z:Int)(g h B C:Nat)(k j:Zl)(w:Zh)(p:Dr w i d m O P L I r b a F H G)(Y:Ad w w.heap.size (some ⟨g,0,none⟩) k)(W:Ad w w.heap.size (some ⟨h,0,none⟩) j)(V:IC k j):
 Calls prog 71 #[Yz d,.agg (Ya v (some ⟨g,0,none⟩) k.length B (some ⟨h,0,none⟩) j.length C o l z)] w fun e A=>∃c Q M u,e=.returned (Yz c)/\CM A i w.heap.size c d m O P L I r b a F H G v o l z Q M Zc u k j j []/\Zz w A:=by
 refine(Mz d v o l z g h B C k j w Y W V).mono ?_;rintro e A ⟨c,x,Z,y,cy,u,n,R,f,rfl,q,D,E,T,S,X,_,N,J,K,s⟩;have lx:w.heap.size<=x/\x<_:=Ac D rfl;have ly:w.heap.size<=y/\y<_:=Ac E rfl;have dj:i<=w.heap.size:=by have:=p.bd;have:=p.box.lt;omega
 simp at N;refine⟨c,_,_,u,rfl,⟨p.below s,p.db.Y (U:=[]) (Tn.of s) Yv,q,Aj.own D,Aj.own E,Aj.nil _ _,⟨n,R,f,T,S,X⟩,⟨by grind,fun g t=> ?_,fun g t=> ?_,(fun g e=>by cases e)⟩,J,K,dj⟩,s⟩
 .cases t;exact⟨by grind,by grind,fun e=>by cases e;grind,fun e=>by cases e⟩
 .cases t;exact⟨by grind,by grind,fun e=>by cases e⟩
structure LB (w wr:Zh) (lb:Nat) (S U:Value) (ss ts:Zl):Prop where
 box:Aa wr lb [S,U]
 rb:Aa wr w.heap.size [Zc,Zc]
 s:Aj wr (w.heap.size+1) S ss
 u:Aj wr (w.heap.size+1) U ts
 ap:∀g,Af S=some g->Af U≠some g/\g≠lb
 au:∀g,Af U=some g->g≠lb
 lo:w.heap.size+1<=lb
 br:Below (w.heap.size+1) (w.alloc (.cells #[Zc,Zc] 35)) wr
theorem LB.w{w:Zh}{lb:Nat}{ss a:Zl}(h:LB w wr lb S U ss a):Below w.heap.size w wr:=
 (Zy).trans (h.br.mono Yw)
theorem Vc{w:Zh}{b:Zj}(h:w.ownsRow a e size v n b):Af v=v.ownBlock:=by rcases h.2 with⟨rfl,_⟩|⟨d,cap,c,rfl,_⟩<;>rfl
theorem LB.step{w Z:Zh}{f:Value}{n o k:Zl}(h:LB w wr d S U n o)(i:Zz wr X)(l:Tn (d::(Af U).toList) X Z)(hu:Aj Z (w.heap.size+1) f k)(m:∀g,Af f=some g->Af U=some g\/X.heap.size<=g)(j:Aa Z d [S,f]):LB w Z d S f n k:=by
 have p:=h.box.lt;have dj:=h.lo;have r:=i.size;have b:∀g,g∈d::(Af U).toList->w.heap.size+1<=g:=fun g a=>by
  rcases List.mem_cons.1 a with e|e
  .omega
  .exact(h.u.S (by simpa using e)).1
 have q:=h.rb.lt;refine⟨j,Aa.same (Aa.below h.rb i) (l.block _ Yw (fun e=>by have:=b _ e;omega)),(h.s.below i).Y l (fun g a e=> ?_),hu,fun g a=>⟨fun e=> ?_,(h.ap g a).2⟩,fun g a=> ?_,h.lo,(h.br.trans (i.mono Yw)).trans (l.below Yw b)⟩
 .rcases List.mem_cons.1 e with e|e
  .exact(h.ap g a).2 e
  .exact(h.ap g a).1 (by simpa using e)
 .rcases m g e with c|c
  .exact(h.ap g a).1 c
  .have:=(h.s.S a).2;omega
 .rcases m g a with c|c
  .exact h.au g c
  .omega
theorem Oe(k:Nat)(d:Int)(O P da:Zk)(sc tc dc:Nat)(b c a:Zl)(w:Zh)(J:w.cell? (Ze k 2)=some (Zg d))(K:w.cell? (Ze k 4)=some (.slice O b.length sc))(L:w.cell? (Ze k 5)=some (.slice P c.length tc))(M:k<w.heap.size)(hs:Ad w w.heap.size O b)(ht:Ad w w.heap.size P c)(hd:Ad w w.heap.size da a)(zI:b.length<=1048576)(zJ:c.length<=1048576)(zR:a.length<=1000)(hF:∀X s,Zz w X->Calls prog 128 #[.agg #[Zg 7,.string s,Zd,Zf,Zd,Zc],Zg d] X fun e H=>e=.returned (.string (DD d s))/\Zz X H):
 Calls prog 76 #[Yz k,.slice da a.length dc] w fun e H=>∃S U,e=.returned (.agg #[S,U])/\Aj H w.heap.size S b/\Aj H w.heap.size U (c++a.map (DD d))/\(∀g,Af S=some g->Af U≠some g)/\Zz w H:=by
 obtain⟨W,G⟩:∃W,W=w.alloc (.cells #[Zc,Zc] 35):=⟨_,rfl⟩;have u:=(AA G).1;have zW:=(AA G).2.1;have xW:=(AA G).2.2;have g4:W.cell? (Ze k 4)=some (.slice O b.length sc):=(u.cell (p:=⟨k,4,none⟩) M).trans K;have g5:W.cell? (Ze k 5)=some (.slice P c.length tc):=(u.cell (p:=⟨k,5,none⟩) M).trans L
 have HD:Hid (∀X,Zz w X->Ad X X.heap.size da a/\X.cell? (Ze k 2)=some (Zg d)):=fun X t=>⟨hd.j t,(t.cell (p:=⟨k,2,none⟩) M).trans J⟩;have HC:=Yx (NT O P sc tc b c W (hs.j u) (ht.j u) zI zJ);have HF:=Yx hF;have HW:=Yx G;have R:Hid (Aa W w.heap.size [Zc,Zc]):=xW;have zF:Hid (Zz w W/\W.heap.size=w.heap.size+1):=⟨u,zW⟩;clear J K L hs ht hd hF G xW u zW;go_enter func76,ntmps76;go_upto_region 1 with fail
 rw[<-HW.o];go_wp2_with fail;refine Calls.mono HC.o ?_;rintro e l ⟨x,m,y,cy,rfl,o,N,zA,A⟩;clear HC g4 g5;obtain⟨I,z⟩:∃Y,Y=l.alloc (.cells #[.slice x b.length m,.slice y c.length cy] 35):=⟨_,rfl⟩;have F:=(AA z).1;have x3:=(AA z).2.2;have hz:=zF.o.2;have zU:=A.size;have h0:LB w I l.heap.size (.slice x b.length m) (.slice y c.length cy) b c:=by
  have zK:Aj I W.heap.size (.slice x b.length m) b:=(Aj.own o).below F;have zM:Aj I W.heap.size (.slice y c.length cy) c:=(Aj.own N).below F;refine⟨x3,Aa.below (Aa.below R.o A) F,zK.mono Yw,zM.mono Yw,fun g h=>⟨fun e=> ?_,?_⟩,fun g h=> ?_,Yw,?_⟩
  .rw[Vc o]at h;rw[Vc N]at e;exact zA g h e
  .have:=((Aj.own o).S h).2;omega
  .have:=((Aj.own N).S h).2;omega
  .rw[<-HW.o];exact(A.mono Yw).trans (F.mono Yw)
 have H0:=Yx h0;have Q:=Yx z;clear z F x3 h0 o N zA A HW R hz;have zH:l.heap.size<I.heap.size:=(H0.o.box).lt;go_wp2;rw[<-Q.o];clear Q
 go_loopw [16] (fun i wr=>∃(j:Nat) (U:Value),j<=a.length/\i=Zg j/\Hid (LB w wr l.heap.size (.slice x b.length m) U b (c++(a.take j).map (DD d)))) (fun i _=>a.length -(intOf i).toNat)
 case atStart=>exact⟨0,_,Nat.zero_le _,rfl,by show LB _ _ _ _ _ _ _;simpa using H0.o⟩
 case round=>
  clear H0 zH;obtain⟨j,U,hj,rfl,f⟩:=hrel;obtain⟨B,C,T,_⟩:=f.o.u.row;have zT:(c++(a.take j).map (DD d)).length<=1100000:=Yu
  by_cases hlt:j<a.length
  .obtain⟨db,zO,zG,zP,Z⟩:=(HD.o wr f.o.w).1.at hlt;subst zG;have HG:Hid (a[j]?=some a[j]):=Zv hlt;have c0:=Z j _ HG.o;have k2:=(HD.o wr f.o.w).2;have zE:Hid (c++(a.take (j+1)).map (DD d)=(c++(a.take j).map (DD d))++[DD d a[j]]):=by show _=_;rw[Zu hlt,List.map_append,<-List.append_assoc];rfl
   clear Z;generalize a[j]=s at *
   generalize hts:c++(a.take j).map (DD d)=ts at *
   subst T;obtain⟨n1,_⟩:=f.o.box 1 _ rfl;have zN:=f.o.box.lt;have zS:k<wr.heap.size:=Zr M f.o.w.size
   have zB:Hid (∀X,Zz wr X->∃D E Y,(Builtin.append_ #[22,22] 22 #[.slice B ts.length C,Za X.heap.size 1 1]).run prog (X.alloc (.cells #[.string (DD d s)] 9))=.ok (.slice D (ts.length+1) E) Y/\Aa Y l.heap.size [.slice x b.length m,.slice B ts.length C]/\LB w (Y.setCell (Ze (l.heap.size) 1) (.slice D (ts.length+1) E)) l.heap.size (.slice x b.length m) (.slice D (ts.length+1) E) b (ts++[DD d s])):=fun X t=>by
    have dj:=f.o.lo;have hz:=t.size;obtain⟨D,E,Y,h1,J,h3,K,L⟩:=SX X (w.heap.size+1) l.heap.size 1 _ ts (DD d s) (f.o.u.below t) (fun g h=>f.o.au g h) Yw Yw Yw;have q:Aa Y l.heap.size [.slice x b.length m,.slice B ts.length C]:=Aa.same (Aa.below f.o.box t) J;exact⟨D,E,Y,h1,q,f.o.step t h3 K L (q.set 1 _)⟩
   have zC:=Yx (HF.o wr.drew s f.o.w.drew);go_upto_region 5 with fail
   go_region_law (first
    |(go_simp;go_at_call 128;refine Calls.mono zC.o ?_;rintro e wf ⟨rfl,V⟩;have bf:Below wr.heap.size wr wf:=Cp V;have zf:=bf.size;obtain⟨D,E,Y,hr,q,hL⟩:=zB.o wf bf;have o:=Aa.below f.o.box bf;have m1:=(o 1 _ rfl).1;obtain⟨y1,f1⟩:=q 1 _ rfl;have a1:(wf.alloc (.cells #[.string (DD d s)] 9)).cell? (Ze (l.heap.size) 1)=some (.slice B ts.length C):=(Aa.below o (Zy) 1 _ rfl).1;have n:=Yx hL;clear o q hL V;go_wp2_with fail)
    |(refine Bv Yr (.tmp 21) (.tmp 30) 22 22 Yr Yr Yr hr ?_))
   all_goals
    go_wp2;exact⟨⟨j+1,_,Yw,Yp,by rw[zE.o];exact n⟩,by simp[intOf];omega⟩
  .obtain rfl:j=a.length:=Yw
   have r:=f.o;rw[Zt (Zx)]at r;have n:=Yx r;subst T;obtain⟨l0,_⟩:=r.box 0 _ rfl;obtain⟨l1,_⟩:=r.box 1 _ rfl;obtain⟨r0,f0⟩:=r.rb 0 _ rfl;obtain⟨r1,f1⟩:=r.rb 1 _ rfl;clear r;generalize hts:(c++(a.take a.length).map (DD d)).length=tn at *
   go_wp2;have hT:Tn [w.heap.size] wr ((wr.setCell (Ze (w.heap.size) 0) (.slice x b.length m)).setCell (Ze (w.heap.size) 1) (.slice B tn C)):=(AM _ _ _ _).trans (AM _ _ _ _)
   refine bodyPost_ret (v:=.agg #[.slice x b.length m,.slice B tn C]) (by simp[results,results76,go_sem,r0,r1]) rfl ⟨_,_,rfl,(n.o.s.Y hT (fun g h e=> ?_)).mono Yw,(n.o.u.Y hT (fun g h e=> ?_)).mono Yw,fun g h=>(n.o.ap g h).1,n.o.w.trans (hT.below n.o.w.size Yv)⟩
   .have:=(n.o.s.S h).1;simp at e;omega
   .have:=(n.o.u.S h).1;simp at e;omega
def Abl(v:Vd)(e:Ed)(lo:Nat)(w:Zh)(o:Ending)(w':Zh):Prop:=
 Below lo w w'/\((∃c p q,Nr v e c p q/\o=.returned (.agg #[Zg c,Zf,Zf,Zc,Zc,Zf,Zf,Zf,Zf,Zc,Zc,Zc,Zf,Zc,Zc,Zf,Zf,Zf,Zd,Zf,.string p,.string q]))\/(∃r S U T P L Q M rs,SP v e r/\o=.returned (.agg (XK (dyes v e r) S U T P L Q M).toArray)/\AU w' lo S U T P L Q M rs (doV v e r)))
theorem ZM{T:Value}{d:Dd}(h:AU X b S U T P L Q M c d.v):(XK d S U T P L Q M).length=22/\∀u∈XK d S U T P L Q M,u.oneCell'=true:=by obtain⟨a,h,_⟩:=h.io;exact Abd (vs:=Bx d.v S U T P L Q M) ⟨rfl,by rw[h];simp[Bx,Value.oneCell']⟩
theorem Abl.form{v:Vd}{e:Ed}{lo:Nat}{w b:Zh}{o:Ending}(h:Abl v e lo w o b):Below lo w b/\∃(c:Int) (zs tl:Zj),o=.returned (.agg (Zg c::(zs++tl)).toArray)/\zs.length=17/\tl.length=4/\(∀u∈Zg c::(zs++tl),u.oneCell'=true)/\((∃p q,Nr v e c p q/\tl=[Zd,Zf,.string p,.string q])\/(c=0/\∃r S U T P L Q M a,SP v e r/\Zg c::(zs++tl)=XK (dyes v e r) S U T P L Q M/\AU b lo S U T P L Q M a (doV v e r))):=by
 obtain⟨g,⟨c,p,q,h,rfl⟩|⟨r,S,U,T,P,L,Q,M,a,h,rfl,f⟩⟩:=h
 .exact⟨g,c,Xu,[Zd,Zf,.string p,.string q],rfl,rfl,rfl,by simp[Value.oneCell'],.inl ⟨p,q,h,rfl⟩⟩
 .exact⟨g,0,Bx (doV v e r) S U T P L Q M,[.string r.sm,Zg r.le,Zd,Zd],rfl,rfl,rfl,(ZM (d:=dyes v e r) f).2,.inr ⟨rfl,r,S,U,T,P,L,Q,M,a,h,rfl,f⟩⟩
theorem Ve{T:TypeId}{B:Nat}{w i:Zh}(h:Lib.IsBuilder T e B b c w)(a:Zz w i):Lib.IsBuilder T e B b c i:=by
 have g:∀p,Lib.BuilderAt T e B b p c w->Lib.BuilderAt T e B b p c i:=by rintro p ⟨m,v,f,d,l⟩;have j:b<w.heap.size:=(Array.getElem?_eq_some_iff.1 f).1;exact⟨m,v,(a.block b j).trans f,d.kept (row:=none) ⟨a.os,a.tape,a.output,a.size,fun k n _=>a.block k n⟩ (by cases hv:v.ownBlock<;>simp),l⟩
 rcases h with h|h
 .exact .inl (g _ h)
 .exact .inr (g _ h)
theorem WN(k n m:Int)(b:0<=n)(c:n<=1000000000)(j:Nat)(a:j<4):
 Lib.byteCells ((BZ k n m).take (1+j))++[Value.int .u8 (n/2^(8 *(3 -j))%256)]=Lib.byteCells ((BZ k n m).take (1+(j+1))):=by
 rw[EP (n/2^(8 *(3 -j))%256) Yw Yw]
 match j,a with
 |0,_=>
  have:n/2^(8 *(3 -0))%256=n/16777216:=by show n/16777216%256=n/16777216;omega
  rw[this];rfl
 |1,_=>rfl
 |2,_=>rfl
 |3,_=>
  have:n/2^(8 *(3 -3))%256=n%256:=by show n/1%256=n%256;omega
  rw[this];rfl
theorem WO(k n m:Int)(a:0<=m)(b:m<256):Lib.byteCells ((BZ k n m).take (1+4))++[Value.int .u8 m]=Lib.byteCells (BZ k n m):=by rw[EP m a b];rfl
theorem Kc(k n m:Int)(j:Nat):(Lib.byteCells ((BZ k n m).take j)).length<=6:=by rw[Lib.byteCells_length];have:(BZ k n m).length=6:=rfl;simp[this];omega
theorem Vf(k:Nat)(g a:Zi)(n:Int)(t:Zi)(A:Zk)(cap:Nat)(h:Zl)(P:Int)(w:Zh)(hT:Jr w)(h1:1<=k)(h7:k<=7)(y:Ad w w.heap.size A h)(hl:h.length<=1048576)(ht:t.size<=maxLen)(H:CW k g a n t h P=true):
 Calls prog 128 #[.agg (EF k g a n t A h.length cap),Zg P] w fun e w'=>e=.returned (.string ⟨(Dk k g a n t h).toArray⟩)/\Zz w w':=by
 have hp:=Eu H;obtain⟨zW,zX,zO,zE,zK,zM,I⟩:=hp;have E:Below w.heap.size w (w.alloc (.cells (EF k g a n t A h.length cap) 66)):=Zy;go_enter func128,ntmps128;go_wp2_with fail;refine(LR k g a n t A cap h P _ (hT.below E) h1 h7 (y.j E) hl ht Yq).mono ?_;rintro e b ⟨rfl,q⟩;rw[H];have hz:=q.size;simp at hz;have f:w.heap.size<b.heap.size:=Yw
 have s:=E.trans (q.mono Yv);have x0:b.cell? (Ze (w.heap.size) 0)=some (Zg k):=by rw[q.cell (p:=⟨w.heap.size,0,none⟩) Yv];simp
 have x1:b.cell? (Ze (w.heap.size) 1)=some (.string g):=by rw[q.cell (p:=⟨w.heap.size,1,none⟩) Yv];simp
 have x2:b.cell? (Ze (w.heap.size) 2)=some (.string a):=by rw[q.cell (p:=⟨w.heap.size,2,none⟩) Yv];simp
 have x3:b.cell? (Ze (w.heap.size) 3)=some (Zg n):=by rw[q.cell (p:=⟨w.heap.size,3,none⟩) Yv];simp
 have x4:b.cell? (Ze (w.heap.size) 4)=some (.string t):=by rw[q.cell (p:=⟨w.heap.size,4,none⟩) Yv];simp
 have x5:b.cell? (Ze (w.heap.size) 5)=some (.slice A h.length cap):=by rw[q.cell (p:=⟨w.heap.size,5,none⟩) Yv];simp
 have J:=y.below s;have zG:=Yx H;clear H I y q E;have u:=Lib.fresh_isBuilder 221 5 b;have X:Below b.heap.size b (b.alloc (.cells #[.pointer none,Zc] 221)):=Zy;go_wp2_with fail;refine(Fj b.heap.size b.heap.size [] _ _ u Yv Yv).mono ?_;rintro e w2 ⟨rfl,v,V⟩;have Y:=X.trans V;have zA:[]++[Value.int .u8 (k:Int)]=Lib.byteCells ((BZ k n a.size).take 1):=by rw[EP k Yw Yw];rfl
 rw[zA]at v;clear u X V zA;go_wp2
 go_loopw [15] (fun i wr=>∃(j:Nat),j<=4/\i=Zg j/\Lib.IsBuilder 221 5 b.heap.size b.heap.size (Lib.byteCells ((BZ k n a.size).take (1+j))) wr/\Zz b wr) (fun i _=>4 -(intOf i).toNat)
 case atStart=>exact⟨0,Nat.zero_le _,rfl,v,Y⟩
 case round=>
  clear v Y;obtain⟨j,hj,rfl,u,d⟩:=hrel;have zC:=d.size;have y0:wr.cell? (Ze (w.heap.size) 0)=some (Zg k):=(d.cell (p:=⟨w.heap.size,0,none⟩) f).trans x0;have Q:wr.cell? (Ze (w.heap.size) 1)=some (.string g):=(d.cell (p:=⟨w.heap.size,1,none⟩) f).trans x1;have y2:wr.cell? (Ze (w.heap.size) 2)=some (.string a):=(d.cell (p:=⟨w.heap.size,2,none⟩) f).trans x2
  have y3:wr.cell? (Ze (w.heap.size) 3)=some (Zg n):=(d.cell (p:=⟨w.heap.size,3,none⟩) f).trans x3;by_cases hlt:j<4
  .have zB:=Kc k n a.size (1+j);have zN:=Yx (WN k n a.size zK zM j hlt);go_wp2_with fail;refine(Fj b.heap.size b.heap.size _ _ _ u Yw zC).mono ?_;rintro e w3 ⟨rfl,o,z⟩;rw[zN.o]at o;have F:=d.trans z;clear u d z y0 Q y2 y3;go_wp2;exact⟨⟨j+1,Yw,Yp,o,F⟩,by simp[intOf];omega⟩
  .obtain rfl:j=4:=Yw
   have zB:=Kc k n a.size (1+4);go_wp2_with fail;refine(Fj b.heap.size b.heap.size _ _ _ u Yw zC).mono ?_;rintro e w3 ⟨rfl,o,z⟩;rw[WO k n a.size Yw Yw]at o;have l:=d.trans z;have S:=l.size;have y2:w3.cell? (Ze (w.heap.size) 2)=some (.string a):=(l.cell (p:=⟨w.heap.size,2,none⟩) f).trans x2;clear u d z y0 Q y3 zB;have G:(Lib.byteCells (BZ k n a.size)).length=6:=rfl
   go_wp2_with fail;refine(Dx b.heap.size b.heap.size _ a _ o Yw S).mono ?_;rintro e w4 ⟨rfl,x,F⟩;rw[<-Lib.byteCells_append]at x;have m:=l.trans F;have T:=m.size;have Q:w4.cell? (Ze (w.heap.size) 1)=some (.string g):=(m.cell (p:=⟨w.heap.size,1,none⟩) f).trans x1;clear o l F y2 G;have G:(Lib.byteCells (BZ k n a.size++a.data.toList)).length=6+a.size:=by rw[Lib.byteCells_length];simp[BZ];omega
   go_wp2_with fail;refine(Dx b.heap.size b.heap.size _ g _ x Yw T).mono ?_;rintro e O ⟨rfl,r,W⟩;rw[<-Lib.byteCells_append]at r;have c:=m.trans W;have D:=c.size;have y0:O.cell? (Ze (w.heap.size) 0)=some (Zg k):=(c.cell (p:=⟨w.heap.size,0,none⟩) f).trans x0;have y4:O.cell? (Ze (w.heap.size) 4)=some (.string t):=(c.cell (p:=⟨w.heap.size,4,none⟩) f).trans x4
   have y5:O.cell? (Ze (w.heap.size) 5)=some (.slice A h.length cap):=(c.cell (p:=⟨w.heap.size,5,none⟩) f).trans x5;have K:=J.below (c.mono Yw);have zP:=s.trans (c.mono s.size);clear x m W Q G;have G:(Lib.byteCells (BZ k n a.size++a.data.toList++g.data.toList)).length=6+a.size+g.size:=by rw[Lib.byteCells_length];simp[BZ];omega
   by_cases hk1:k=1
   .subst hk1;have I:=(Eu zG.o).dv rfl;have N:=BL I;have zR:=N.ba;have zV:=N.M;have zU:=N.B;go_wp2_with fail;refine(ME t A cap h P O (K.mono Yw) I).mono ?_;rintro e w6 ⟨rfl,L⟩;have R:=Ve r L;have zY:=L.size;have zS:(BE t h).length<=3000:=by have:=DE h;simp[BE,this];omega
    have Z:(ByteArray.mk (BE t h).toArray).size=(BE t h).length:=by simp[ByteArray.size]
    have zF:=Yx Z;clear Z;go_wp2_with fail;refine(Dx b.heap.size b.heap.size _ _ _ R (by rw[zF.o];omega) Yw).mono ?_;rintro e w7 ⟨rfl,C,zH⟩;have zI:Lib.byteCells (BZ (1:Nat) n a.size++a.data.toList++g.data.toList)++Lib.byteCells (ByteArray.mk (BE t h).toArray).data.toList=Lib.byteCells (Dk 1 g a n t h):=by rw[<-Lib.byteCells_append];rfl
    rw[zI]at C;have B:=(c.trans (L.mono D)).trans zH;have U:=B.size;go_wp2_with fail;refine(Tryz.Builder_String_any b.heap.size b.heap.size _ _ C U).mono ?_;rintro e w8 ⟨rfl,M⟩;go_wp2;go_ret;exact⟨rfl,s.trans ((B.trans M).mono s.size)⟩
   .have zT:((k:Int)==1)=false:=beq_eq_false_iff_ne.2 Yw;have zJ:BZ k n a.size++a.data.toList++g.data.toList=Dk k g a n t h:=by unfold Dk;rw[if_neg hk1,List.append_nil]
    rw[zJ]at r;go_wp2_with fail;refine(Tryz.Builder_String_any b.heap.size b.heap.size _ _ r D).mono ?_;rintro e w8 ⟨rfl,M⟩;go_wp2;go_ret;exact⟨rfl,s.trans ((c.trans M).mono s.size)⟩
theorem Abm(k:Int)(b a:Zi)(n:Int)(t:Zi)(h:Zk)(cap:Nat)(c:Zl)(f:Int)(w:Zh)(j:Jr w)(g:Ad w w.heap.size h c)(l:c.length<=1048576)(o:t.size<=maxLen)(q:a.size<=maxLen):
 Calls prog 128 #[.agg (EF k b a n t h c.length cap),Zg f] w fun e r=>e=.returned (.string (Cr k b a n t c f))/\Zz w r:=by
 cases hok:Cn k b a n t c f with
 |true=>rw[show Cr k b a n t c f=⟨(Dk k.toNat b a n t c).toArray⟩from by unfold Cr;rw[if_pos hok]];unfold Cn at hok;simp only[Bool.and_eq_true,decide_eq_true_eq]at hok;obtain⟨m,rfl⟩:∃m:Nat,k=m:=⟨k.toNat,Yw⟩;rw[Int.toNat_natCast]at hok |-;exact Vf m b a n t h cap c f w j Yw Yw g l o hok.2
 |false=>rw[show Cr k b a n t c f=ByteArray.empty from by unfold Cr;rw[if_neg (by rw[hok];decide)]];have i:Below w.heap.size w (w.alloc (.cells (EF k b a n t h c.length cap) 66)):=Zy;have d:=Aag k b a n t h cap c f _ (j.below i) (g.j i) l o q;rw[hok]at d;clear hok;go_enter func128,ntmps128;go_wp2_with fail;refine d.mono ?_;rintro e s ⟨rfl,p⟩;go_wp2;go_ret;exact⟨rfl,i.trans (p.mono Yv)⟩
abbrev Abn:Go.Conc.Locks.MuLink:={lock:=69,unlock:=70,ilock:=116,iunlock:=117,lockSlow:=157,unlockSlow:=160,disable:=153,enable:=155,acquire:=156,relMerge:=158,cas32:=154,add32:=159,tMutex:=131,tIMutex:=129,tPMutex:=185,tPIMutex:=210,tPI32:=212,tUP:=214,tNoCopy:=126,tU32:=127}
theorem Ok:Go.Conc.Locks.MuLib prog Abn:=
 ⟨func69,func70,func116,func117,func153,func155,func156,func158,func154,func159,underlying129,runUnderlying129,sizeOf129,isAgg129,zeroValue129,underlying131,runUnderlying131,sizeOf131,isAgg131,zeroValue131,underlying185,runUnderlying185,sizeOf185,isAgg185,zeroValue185,underlying210,runUnderlying210,sizeOf210,isAgg210,zeroValue210,underlying212,runUnderlying212,sizeOf212,isAgg212,zeroValue212,underlying214,runUnderlying214,sizeOf214,isAgg214,zeroValue214,underlying126,runUnderlying126,sizeOf126,isAgg126,zeroValue126,underlying21,runUnderlying21,sizeOf21,isAgg21,zeroValue21,Yt⟩
end Go.Proofs.YtcankpdbabaacaaGreatDoor
