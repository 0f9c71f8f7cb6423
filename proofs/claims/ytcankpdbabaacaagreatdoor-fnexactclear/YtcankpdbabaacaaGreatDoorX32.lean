import Derived.Test.YtcankpdbabaacaaGreatDoorX31
import Derived.Deep.CutRange
import Derived.Deep.Slices
set_option maxRecDepth 100000
set_option maxHeartbeats 16000000
namespace Go.Proofs.YtcankpdbabaacaaGreatDoor
open Go.ChangeShapes Go.WideShapes Go.ChangeAt Go.RowKit _root_.Go.Proofs.Tryz
variable{v:Vd}{lo b n o:Nat}{w:Zh}{c:Zj}{d:List Pd}{a:Int}{u r:UR}{e:Ending}{α:Type}
section
open Go.MuLone Go.ChangeShapes Go.WideShapes Go.ChangeAt Go.RowKit
def CKP(v:Vd)(N lo:Nat)(w:Zh)(o:Ending)(w':Zh):Prop:=Below lo w w'/\∃x cs,ClTo v.E v.ps v.ls (4000 -(v.ss++v.C).length) N 0 (CR v) x/\o=.returned (.agg cs.toArray)/\IP v x lo w' cs
theorem XN{N k:Nat}{X c b:Zh}{l:Zj}(a:Aa X k (.int .i32 1::l)/\Aa X w.heap.size (z20 0)/\Below lo w X)(m:lo<=k/\k<w.heap.size)(i:ClTo v.E v.ps v.ls (4000 -(v.ss++v.C).length) N 0 (CR v) none)(h:c=X.setCells w.heap.size 0 (z20 1))(d:b=c.setCell (Ze k 0) (.int .i32 0)):
 X.there w.heap.size 0 20/\(z20 1).toArray.all (·.oneCell')=true/\c.cell? (Ze k 0)=some (.int .i32 1)/\c.frozen? ⟨k,0,none⟩=false/\Aa b w.heap.size (z20 1)/\CKP v N lo w (.returned (.agg (z20 1).toArray)) b:=by
 obtain⟨j,g,f,e⟩:=ZK (z:=Zf) (cs:=z20 1) a.1 a.2.1 rfl Yw h d;exact⟨a.2.1.there,by simp[z20,Value.oneCell'],j,g,f,a.2.2.trans (e.below (by have:=a.2.2.size;omega) Yu),none,z20 1,i,rfl,rfl⟩
theorem Acv{c:List Ld}(h:Ip d c a u r)(b:r.L≠[]):WD u.A d c u.H u.J u.D u.ms:=by
 cases h with
 |begin h0=>exact absurd rfl b
 |mark h0 s q0 qs' ms' hqq hmm=>exact absurd rfl b
 |rest h0 hqq hn=>exact absurd rfl b
 |ah h0 hqq x hx hk=>exact absurd rfl b
 |drop h0 hqq x hx hmm hk=>exact⟨h0,hqq,x,hx,hmm,hk⟩
theorem WQ{c:List Ld}(f:∀x∈u.A,∀y∈u.A,x.born=y.born->x=y)(h:Ip d c a u r)(g:WD u.A d c u.H u.J u.D u.ms):r.L≠[]:=by
 obtain⟨i,j,y,b,k,l⟩:=g;cases h with
 |begin h0=>exact absurd h0 i
 |mark h0 s q0 qs' ms' hqq hmm=>rw[j]at hqq;cases hqq
 |rest h0 hqq hn=>exact absurd b.2.1 (hn y b.1)
 |ah h0 hqq x hx hk=>have e:x=y:=f x hx.1 y b.1 (by have:=hx.2.2 y b.1 b.2.1;have:=b.2.2 x hx.1 hx.2.1;omega);subst e;exact(hk.elim k l).elim
 |drop h0 hqq x hx hmm hk=>exact fun e=>by cases e
theorem ZN{E:Int}{v:List Pd}{q:List Ld}(_h:XI E a u.A v q u.H u.ro u.D u.ms):∃r,Ip v q a u r:=by
 by_cases h0:u.H=0
 .exact⟨_,.begin h0⟩
 .cases hq:u.D with
  |cons s q0=>
   by_cases h1:Av u.A s/\s∉u.ms
   .obtain⟨⟨k,C,e⟩,d⟩:=h1;exact⟨_,.mark h0 s q0 _ _ hq (.inr ⟨k,C,e,d,rfl,rfl⟩)⟩
   .refine⟨_,.mark h0 s q0 _ _ hq (.inl ⟨?_,rfl,rfl⟩)⟩;by_cases d:Av u.A s
    .exact .inr (Classical.not_not.1 (fun g=>h1 ⟨d,g⟩))
    .exact .inl d
  |nil=>
   by_cases h1:∃y,Gs u.A u.J y
   .obtain⟨y,j⟩:=h1;by_cases d:y.sum∈u.ms\/CV v q u.A y.sum
    .exact⟨_,.ah h0 hq y j d⟩
    .exact⟨_,.drop h0 hq y j (fun h=>d (.inl h)) (fun h=>d (.inr h))⟩
   .refine⟨_,.rest h0 hq (fun y j B=>h1 ?_)⟩;have m:∀(l:List Kd),(∃x∈l,x.born<u.J)->∃x∈l,x.born<u.J/\∀z∈l,z.born<u.J->z.born<=x.born:=by
     intro l;induction l with
     |nil=>rintro⟨x,i,_⟩;cases i
     |cons b l ih=>
      rintro⟨x,i,n⟩;by_cases g:∃x∈l,x.born<u.J
      .obtain⟨z,D,A,o⟩:=ih g;by_cases p:b.born<u.J/\z.born<b.born
       .refine⟨b,Yv,p.1,fun t c f=> ?_⟩;rcases List.mem_cons.1 c with rfl|c
        .omega
        .have:=o t c f;omega
       .refine⟨z,by simp[D],A,fun t c f=> ?_⟩;rcases List.mem_cons.1 c with rfl|c
        .omega
        .exact o t c f
      .rcases List.mem_cons.1 i with rfl|i
       .refine⟨x,Yv,n,fun t c f=> ?_⟩;rcases List.mem_cons.1 c with rfl|c
        .omega
        .exact absurd ⟨t,c,f⟩ g
       .exact absurd ⟨x,i,n⟩ g
    obtain⟨x,i,g,p⟩:=m u.A ⟨y,j,B⟩;exact⟨x,i,g,p⟩
theorem Dr.low{base d m:Nat}{O P L:Value}{l h c:Int}{i:List Kd}{k:List Pd}{j:List Ld}(f:Dr w base d m O P L l h c a i k j):∀b∈vB d m O P L,base<=b:=by
 intro b g;unfold vB at g;simp only[List.mem_cons,List.mem_append,Option.mem_toList]at g;rcases g with rfl|rfl|e|e|e
 .exact f.bd
 .exact f.bm
 .exact(Ac f.ord e).1
 .exact(Ac f.cg e).1
 .exact(Ac f.ci e).1
theorem Vg(v:Vd)(a:Va)(N:Nat)(hN:N<=10000)(r:Rs)(lo k d m base g h:Nat)(O P L:Value)(w0 w:Zh)(hv:DZ v r)(hd:Aaz w lo k d m base O P L v a r)(rJ:w0.heap.size<=lo)(hb:Zz w0 w)(hr:Ca w0 w0.heap.size a v)(hf:Dl v)(hE:Env w0)(vG:a.i=some ⟨g,0,none⟩)(vF:a.g=some ⟨h,0,none⟩):
 Calls prog 25 #[Yz k,Zg N] w (CKP v N lo w):=by
 obtain⟨⟨tY,e2,e3,e4⟩,e5,e6,e7⟩:=hv.same;have BZ:=hd.I;rw[e2,e3,e4,e5,e6,e7]at BZ;have zO:=hd.box;rw[vG,vF]at zO;have tV:k<w.heap.size:=zO.lt;have fj:=hd.fj;have rH:=hd.dj;have vE:k∉vB d m O P L:=fun h=>by have:=hd.lt k h;omega
 have tR:base<=k:=by have:=BZ.bd;have:=hd.lt d (by simp[vB]);omega
 obtain⟨qJ,tW⟩:=hd.ty;obtain⟨W,hW⟩:∃W,W=w.alloc (.cells Xx 45):=⟨_,rfl⟩;have bW:=(AA hW).1;have zW:=(AA hW).2.1;have xZ:Aa W w.heap.size (z20 0):=(AA (l:=z20 0) hW).2.2;have xK:=Aa.below zO bW;obtain⟨j,yZ⟩:∃X,X=W.setCell (Ze k 0) (.int .i32 1):=⟨_,rfl⟩;have t1:Tn [k] W j:=by rw[yZ];exact Tn.set _ _ _ _ Yv
 have qD:=t1.size;have zI:Aa j k [.int .i32 1,.int .u32 0,Zg v.wd,Zg v.U,.slice a.R v.ss.length a.Z,.slice a.N v.C.length a.O,Zg v.T,Zg v.F,Zg v.G,Zg v.E,.slice a.x v.A.length a.kc,.slice a.Q v.ps.length a.W,.slice a.P v.ls.length a.X,Zg v.H,Za g v.D.length a.qc,Za h v.ms.length a.y,Zg v.K,Zg v.J,Zg v.ro,Yz d]:=by rw[yZ];exact xK.set 0 _
 have sH:Aa j w.heap.size (z20 0):=Aa.same xZ (t1.block _ Yw Yu);have b1:Below lo w j:=(bW.mono Yw).trans (t1.below (by have:=bW.size;omega) Yu);have tT:Dr j base d m O P L v.wd v.F v.G v.E v.A v.ps v.ls:=(BZ.below bW).apart t1 tR vE (fun qL fz he=>by rw[bW.block k tV,tW]at he;simp at he);obtain⟨V,yH⟩:∃V,V=vB d m O P L:=⟨_,rfl⟩
 have yP:∀b∈V,lo<=b:=fun b hb=>by rw[yH]at hb;exact Zm rH (BZ.low b hb)
 have HX:Hid (∀X,BX j.heap.size V j X->Aa X k [.int .i32 1,.int .u32 0,Zg v.wd,Zg v.U,.slice a.R v.ss.length a.Z,.slice a.N v.C.length a.O,Zg v.T,Zg v.F,Zg v.G,Zg v.E,.slice a.x v.A.length a.kc,.slice a.Q v.ps.length a.W,.slice a.P v.ls.length a.X,Zg v.H,Za g v.D.length a.qc,Za h v.ms.length a.y,Zg v.K,Zg v.J,Zg v.ro,Yz d]/\Aa X w.heap.size (z20 0)/\Below lo w X):=fun X hX=>⟨Aa.same zI (hX.block k Yw (by rw[yH];exact vE)),Aa.same sH (hX.block _ Yw (fun e=>by rw[yH]at e;have:=hd.lt _ e;omega)),b1.trans (hX.below (by have:=bW.size;omega) yP)⟩
 have xP:Hid (lo<=k/\k<w.heap.size):=⟨fj,tV⟩;have sM:Hid (w.heap.size<j.heap.size):=by show _<_;omega
 have yV:Hid (∀X,BX j.heap.size V j X->Ca X X.heap.size a v/\Jr X):=fun X hX=>by have h1:=hb.trans (((HX.o X hX).2.2).mono rJ);exact⟨hr.j h1,(hE.below h1).ix⟩
 have vQ:Hid (∀X,Zz j X->X.heap.size=j.heap.size->Calls prog 71 #[Yz d,.agg (Ya v.H (some ⟨g,0,none⟩) v.D.length a.qc (some ⟨h,0,none⟩) v.ms.length a.y v.K v.J v.ro)] X fun e w'=>∃c Q M mm,e=.returned (Yz c)/\CM w' base j.heap.size c d m O P L v.wd v.F v.G v.E v.A v.ps v.ls v.H v.K v.J v.ro Q M Zc mm v.D v.ms v.ms []/\Below j.heap.size X w'):=fun X hX hz=>by
  have tO:=(yV.o X (BX.of hX)).1;have hq:=tO.q;have hm:=tO.m;rw[vG]at hq;rw[vF]at hm;have:=PK base d m O P L v.wd v.F v.G v.E v.A v.ps v.ls v.H v.K v.J v.ro g h a.qc a.y v.D v.ms X (tT.below hX) hq hm hf.r;rw[hz]at this;exact this.mono (fun e w' ⟨c,Q,M,mm,h1,h2,h3⟩=>⟨c,Q,M,mm,h1,h2,h3.mono Yw⟩)
 have vS:Hid (GK v.wd v.E v.ps v.ls (4000 -(v.ss++v.C).length) (CR v)):=JY hv;have sL:Hid ((v.ss++v.C).length<=4000):=Hz hv.log;have vX:Hid (V=vB d m O P L):=yH;have yE:=Yx (Zn hf (Zn tY hv.gw));have HW:=Yx hW;have tA:=Yx yZ;obtain⟨tL,f0⟩:=xK 0 _ rfl;obtain⟨rT,_⟩:=zI 19 _ rfl;obtain⟨rM,_⟩:=zI 13 _ rfl;obtain⟨rN,_⟩:=zI 14 _ rfl;obtain⟨rO,_⟩:=zI 15 _ rfl;obtain⟨rP,_⟩:=zI 16 _ rfl
 obtain⟨rQ,_⟩:=zI 17 _ rfl;obtain⟨rR,_⟩:=zI 18 _ rfl;clear hW yZ zO hd BZ tT xK zI xZ sH t1 bW b1 hv hr hE e2 e3 e4 e5 e6 e7 tW yH yP vE tR hf hb tY vG vF zW qD
 go_enter_defers func25,ntmps25
 go_upto_region 1 with fail;rw[<-HW.o];clear HW;go_upto_region 3 with(go_at_call 69;refine(lock_free Ok ⟨k,0,none⟩ _ tL f0).mono ?_;rintro o w' ⟨rfl,rfl⟩;rw[<-tA.o];clear tA tL f0);go_cut [5]from 9 to 92 (fun p wx=>∃c Q M mm,p=Yz c/\Hid (CM wx base j.heap.size c d m O P L v.wd v.F v.G v.E v.A v.ps v.ls v.H v.K v.J v.ro Q M Zc mm v.D v.ms v.ms []/\Zz j wx))
 case first=>
  refine wp_region_noPanic ?_;go_region_with (go_at_call 71;refine(vQ.o j.drew (Below.refl _ _).drew rfl).mono ?_;rintro o w2 ⟨c,Q,M,mm,rfl,sZ,rF⟩;have sY:Below j.heap.size j w2:=(Below.refl j.heap.size j).drew.trans rF)
  all_goals ((try refine NoPanic.normal ?_);go_wp2_with fail;go_meet;exact⟨c,Q,M,mm,rfl,sZ,sY⟩)
 case rest=>
 revert wc;intro w2 hcut;obtain⟨c,Q,M,mm,rfl,H2⟩:=hcut;clear vQ rT rM rN rO rP rQ rR;have vI:=HX.o w2 (BX.of H2.o.2);obtain⟨k4,_⟩:=vI.1 4 _ rfl;obtain⟨k5,_⟩:=vI.1 5 _ rfl;go_wp2_with fail;refine(Jj a.R a.N v.ss.length v.C.length a.Z a.O w2).mono ?_;rintro e w3 ⟨rfl,vA⟩;go_wp2_with fail;refine(Nq a.R a.N v.ss.length v.C.length a.Z a.O w3 yE.o.1.s yE.o.1.t).mono ?_;rintro e w4 ⟨rfl,tQ⟩
 have xT:Below w2.heap.size w2 w4:=vA.trans (tQ.mono vA.size);have rL:=H2.o.2.size;have H4:Hid (CM w4 base j.heap.size c d m O P L v.wd v.F v.G v.E v.A v.ps v.ls v.H v.K v.J v.ro Q M Zc mm v.D v.ms v.ms []/\BX j.heap.size V j w4):=⟨H2.o.1.below xT,(BX.of H2.o.2).trans (BX.of (xT.mono rL))⟩;have rI:=sL.o;rw[List.length_append]at rI;obtain⟨fr,vD⟩:∃fr:Nat,fr=4000 -(v.ss++v.C).length:=⟨_,rfl⟩
 have qG:(4000:Int) -(v.ss.length+v.C.length)=fr:=by rw[vD,List.length_append];omega
 have vR:Hid (fr=4000 -(v.ss++v.C).length):=vD;clear vA tQ xT H2 vI k4 k5 vD;go_wp2
 go_loopw [7] (fun i wr=>∃(n:Nat) (u:UR) (O Q M D:Value) (mm:Nat),i=Zg n/\Hid (CM wr base j.heap.size c d m O P L v.wd v.F v.G v.E u.A v.ps v.ls u.H u.K u.J u.ro Q M D mm u.D u.ms u.ms u.L/\GK v.wd v.E v.ps v.ls (4000 -(v.ss++v.C).length) u/\(∀o,ClTo v.E v.ps v.ls (4000 -(v.ss++v.C).length) N n u o->ClTo v.E v.ps v.ls (4000 -(v.ss++v.C).length) N 0 (CR v) o)/\n<=N/\BX j.heap.size V j wr/\vB d m O P L=V)) (fun i _=>N -(intOf i).toNat)
 case atStart=>exact⟨0,CR v,O,Q,M,_,mm,rfl,H4.o.1,vS.o,fun o h=>h,Nat.zero_le _,H4.o.2,vX.o.symm⟩
 case round=>
  clear H4 vS vX;clear O Q M mm;obtain⟨n,u,O,Q,M,D,mm,rfl,t⟩:=hrel;have qT:=t.o.2.2.2.1;obtain⟨da,dc,rA,_⟩:=t.o.1.dd.row;subst rA;by_cases hlt:n<N
  case' neg=>
   have qR:¬(n:Int)<N:=Yw
   have vW:Hid (ClTo v.E v.ps v.ls (4000 -(v.ss++v.C).length) N 0 (CR v) (some (u,n))):=t.o.2.2.1 _ (.fin n u Yw);have zF:=Yx t.o.1;have zJ:Hid (BX j.heap.size V j wr):=t.o.2.2.2.2.1;obtain⟨q,rfl⟩:∃X,X=wr:=⟨_,rfl⟩
  case' pos=>
   have qH:(n:Int)<N:=Yw
   obtain⟨q6,_⟩:=t.o.1.box 6 _ rfl;obtain⟨q8,_⟩:=t.o.1.box 8 _ rfl;by_cases hro:u.ro=1000000000
   case pos=>
    have yR:(u.ro==1000000000)=true:=by simpa using hro
    have xQ:Hid (ClTo v.E v.ps v.ls (4000 -(v.ss++v.C).length) N 0 (CR v) none):=t.o.2.2.1 _ (.old n u hlt hro);have zJ:Hid (BX j.heap.size V j wr):=t.o.2.2.2.2.1;clear hro t q8;obtain⟨W9,zT⟩:∃Y,Y=wr.setCells w.heap.size 0 (Xl 1):=⟨_,rfl⟩;obtain⟨yF,zG⟩:∃Y,Y=W9.setCell (Ze k 0) (.int .i32 0):=⟨_,rfl⟩;have HE:=Yx (XN (HX.o wr zJ.o) xP.o xQ.o zT zG);have xS:=Yx zT;have zH:=Yx zG;clear zT zG
    go_wp2_with (refine wpList_store_mid rfl 45 _ _ rfl w.heap.size 0 (Xm 1) rfl rfl HE.o.1 Yt HE.o.2.1 ?_);rw[<-xS.o];refine leaves_cons (f:=70) (args:= #[Yz k]) Yv (by simp[go_sem]) ?_;refine(unlock_deferred Ok ⟨k,0,none⟩ .returning _ HE.o.2.2.1 HE.o.2.2.2.1).mono ?_;rintro o u' sF ⟨rfl,rfl,rfl⟩;rw[<-zH.o]
    exact⟨_,Ce results25 _ _ w.heap.size (z20 1) _ rfl (Aa.range HE.o.2.2.2.2.1) underlying45 rfl Yt,HE.o.2.2.2.2.2⟩
   have yR:(u.ro==1000000000)=false:=by simpa using hro
   have zN:Hid (u.ro≠1000000000):=hro;clear hro;by_cases hfu:u.L.length=fr
   case' neg=>
    have yQ:((u.L.length:Int)==fr)=false:=Yu
    have zF:=Yx t.o.1;have zJ:Hid (BX j.heap.size V j wr):=t.o.2.2.2.2.1;have yX:Hid (WD u.A v.ps v.ls u.H u.J u.D u.ms->u.L.length<4000 -(v.ss++v.C).length):=fun _=>by have:=t.o.2.1.df;have:=vR.o;omega
    obtain⟨q,rfl⟩:∃X,X=wr:=⟨_,rfl⟩
   case' pos=>
    have yQ:((u.L.length:Int)==fr)=true:=Yu
    have tB:=Yx (Od base j.heap.size c d m O P L v.wd v.F v.G v.E u.A v.ps v.ls u.H u.K u.J u.ro Q M (.slice da u.L.length dc) mm u.D u.ms u.L wr t.o.1 t.o.2.1.ok.ok t.o.2.1.ok.born t.o.2.1.ok.pl t.o.2.1.ok.ll t.o.2.1.ok.gu t.o.2.1.un);have sK:Hid (u.L.length=fr):=hfu;clear hfu;go_wp2_with fail;refine Calls.mono tB.o ?_;rintro e q ⟨b,rfl,xL,xH⟩;clear tB
    have zF:Hid (CM q base j.heap.size c d m O P L v.wd v.F v.G v.E u.A v.ps v.ls u.H u.K u.J u.ro Q M (.slice da u.L.length dc) mm u.D u.ms u.ms u.L):=t.o.1.below xH;have zJ:Hid (BX j.heap.size V j q):=t.o.2.2.2.2.1.trans (BX.of (xH.mono t.o.1.lo));cases b
    case' true=>
     have vW:Hid (ClTo v.E v.ps v.ls (4000 -(v.ss++v.C).length) N 0 (CR v) (some (u,n))):=by obtain⟨r6,yJ⟩:=ZN t.o.2.1.ok;exact t.o.2.2.1 _ (.full n u r6 hlt zN.o yJ (WQ t.o.2.1.un yJ (xL.1 rfl)) (by have:=sK.o;have:=vR.o;omega))
     clear xL xH yR yQ q6 q8
    case' false=>
     have yX:Hid (WD u.A v.ps v.ls u.H u.J u.D u.ms->u.L.length<4000 -(v.ss++v.C).length):=fun h=>by have:=xL.2 h;cases this
     clear xL xH q6 q8
   all_goals try
    replace yX:=yX;go_wp2_with fail;refine(WM base j.heap.size c d m O P L v.wd v.F v.G v.E u.A v.ps v.ls u.H u.K u.J u.ro Q M (.slice da u.L.length dc) mm u.D u.ms u.L q zF.o t.o.2.1.ok (by have:=t.o.2.1.dl;omega)).mono ?_;rintro e w6 ⟨rfl,sA,O6,tN,r6,yJ,Q6,M6,D6,xM,yG⟩;have tZ:Ip v.ps v.ls v.E u r6:=yJ;have xO:Hid (BX j.heap.size V j w6/\vB d m O6 P L=V):=by
     refine⟨zJ.o.trans ?_,?_⟩
     .rw[<-t.o.2.2.2.2.2];exact sA
     .rw[<-t.o.2.2.2.2.2];unfold vB;rw[tN]
    have H6:=Yx yG;have zZ:Hid (Ip v.ps v.ls v.E u r6):=tZ;obtain⟨sD,sE,xV,_⟩:=yG.q.row;obtain⟨sB,sC,xU,_⟩:=yG.mr.row;subst xV;subst xU;have vV:=Yx (Oc c d r6.H r6.K r6.J r6.ro sD sB sE sC D6 xM r6.D r6.ms w6 yG.box);clear yG yJ tZ sA tN zF zJ;go_wp2_with fail;refine Calls.mono vV.o ?_;rintro e w7 ⟨rfl,rK⟩;subst rK;clear vV;by_cases hlong:23200<r6.D.length\/600<r6.ms.length
    .rw[decide_eq_true hlong];have xQ:Hid (ClTo v.E v.ps v.ls (4000 -(v.ss++v.C).length) N 0 (CR v) none):=t.o.2.2.1 _ (.long n u r6 hlt zN.o zZ.o hlong);clear H6 zZ t hlong;obtain⟨W9,zT⟩:∃Y,Y=w7.setCells w.heap.size 0 (Xl 1):=⟨_,rfl⟩;obtain⟨yF,zG⟩:∃Y,Y=W9.setCell (Ze k 0) (.int .i32 0):=⟨_,rfl⟩;have HE:=Yx (XN (HX.o w7 xO.o.1) xP.o xQ.o zT zG);have xS:=Yx zT;have zH:=Yx zG;clear zT zG
     go_wp2_with (refine wpList_store_mid rfl 45 _ _ rfl w.heap.size 0 (Xm 1) rfl rfl HE.o.1 Yt HE.o.2.1 ?_);rw[<-xS.o];refine leaves_cons (f:=70) (args:= #[Yz k]) Yv (by simp[go_sem]) ?_;refine(unlock_deferred Ok ⟨k,0,none⟩ .returning _ HE.o.2.2.1 HE.o.2.2.2.1).mono ?_;rintro o u' sF ⟨rfl,rfl,rfl⟩;rw[<-zH.o]
     exact⟨_,Ce results25 _ _ w.heap.size (z20 1) _ rfl (Aa.range HE.o.2.2.2.2.1) underlying45 rfl Yt,HE.o.2.2.2.2.2⟩
    .rw[decide_eq_false hlong];have vC:r6.L=[]\/u.L.length<4000 -(v.ss++v.C).length:=by
      by_cases h1:r6.L=[]
      .exact .inl h1
      .exact .inr (yX.o (Acv zZ.o h1))
     have HE:Hid (CM w7 base j.heap.size c d m O6 P L v.wd v.F v.G v.E (u.and r6).A v.ps v.ls (u.and r6).H (u.and r6).K (u.and r6).J (u.and r6).ro (.slice sD r6.D.length sE) (.slice sB r6.ms.length sC) D6 xM (u.and r6).D (u.and r6).ms (u.and r6).ms (u.and r6).L/\GK v.wd v.E v.ps v.ls (4000 -(v.ss++v.C).length) (u.and r6)/\(∀o,ClTo v.E v.ps v.ls (4000 -(v.ss++v.C).length) N (n+1) (u.and r6) o->ClTo v.E v.ps v.ls (4000 -(v.ss++v.C).length) N 0 (CR v) o)/\n+1<=N/\BX j.heap.size V j w7/\vB d m O6 P L=V):=⟨H6.o,t.o.2.1.step zZ.o zN.o Yw Yw vC,fun o ho=>t.o.2.2.1 o (.step n u r6 o hlt zN.o zZ.o Yw Yw vC ho),hlt,xO.o⟩
     clear H6 zZ t hlong vC xO;go_wp2;exact⟨⟨n+1,u.and r6,O6,_,_,D6,xM,Yp,HE⟩,by simp[intOf];omega⟩
  all_goals
   obtain⟨C,E,xV,_⟩:=zF.o.q.row;obtain⟨A,B,xU,_⟩:=zF.o.mr.row;subst xV;subst xU;have hx:=HX.o q zJ.o;have qU:=hx.2.2.size;have qF:=zF.o.box.lt;have yO:=zF.o.lo;obtain⟨Y1,xY⟩:∃Y,Y=(q.alloc (.cells Xv 43)).setCells q.heap.size 0 (Xq v a.R a.Z a.N a.O a.x a.kc a.Q a.W a.P a.X (some ⟨g,0,none⟩) a.qc (some ⟨h,0,none⟩) a.y):=⟨_,rfl⟩
   have tS:=boxed (X:=q) (cs:=(Xq v a.R a.Z a.N a.O a.x a.kc a.Q a.W a.P a.X (some ⟨g,0,none⟩) a.qc (some ⟨h,0,none⟩) a.y)) (z:=Xu) (T:=43) rfl;rw[<-xY]at tS;obtain⟨y1,b1,z1⟩:=tS
   have yU:Hid (q.rangeAt k 2 (Xq v a.R a.Z a.N a.O a.x a.kc a.Q a.W a.P a.X (some ⟨g,0,none⟩) a.qc (some ⟨h,0,none⟩) a.y)/\(q.alloc (.cells Xv 43)).there q.heap.size 0 17/\((Xr v a.R a.Z a.N a.O a.x a.kc a.Q a.W a.P a.X (some ⟨g,0,none⟩) a.qc (some ⟨h,0,none⟩) a.y):Array Value).all (·.oneCell')=true):=⟨Aa.gy [.int .i32 1,.int .u32 0] _ [Yz d] hx.1,(Aa.new q Xu 43).there,by simp[Value.oneCell']⟩
   have zX:Hid (BX j.heap.size V j Y1):=zJ.o.trans (BX.of (b1.mono yO));have yS:Hid (CM Y1 base j.heap.size c d m O P L v.wd v.F v.G v.E u.A v.ps v.ls u.H u.K u.J u.ro (.slice C u.D.length E) (.slice A u.ms.length B) (.slice da u.L.length dc) mm u.D u.ms u.ms u.L):=zF.o.below b1;have yK:=(HX.o Y1 zX.o).1;obtain⟨_,_,eD,tM⟩:=yS.o.dd.row;cases eD;have qQ:u.L.length<=600:=by have:=t.o.2.1.dl;omega
   have vT:=Yx (Oe k v.wd a.R a.N da a.Z a.O dc v.ss v.C u.L Y1 (yK 2 _ rfl).1 (yK 4 _ rfl).1 (yK 5 _ rfl).1 yK.lt (yV.o Y1 zX.o).1.s (yV.o Y1 zX.o).1.t tM yE.o.1.s yE.o.1.t Yw (fun Z s hZ=>Abm 7 s ⟨#[]⟩ 0 ⟨#[]⟩ none 0 [] v.wd Z (yV.o Z (zX.o.trans (BX.of (hZ.mono Yw)))).2 (.inl rfl) (Nat.zero_le _) (Nat.zero_le _) (Nat.zero_le _)));obtain⟨qC,_⟩:=yS.o.box 8 _ rfl;have tC:=Yx xY
   have tI:=Yx y1;clear xY y1 hx yK tM b1;go_upto_region 15 with(first
    |refine wpList_load_mid rfl 43 _ rfl k 2 rfl (Xq v a.R a.Z a.N a.O a.x a.kc a.Q a.W a.P a.X (some ⟨g,0,none⟩) a.qc (some ⟨h,0,none⟩) a.y) _ yU.o.1 underlying43 rfl Yt ?_
    |refine wpList_store_mid rfl 43 _ _ rfl q.heap.size 0 (Xr v a.R a.Z a.N a.O a.x a.kc a.Q a.W a.P a.X (some ⟨g,0,none⟩) a.qc (some ⟨h,0,none⟩) a.y) rfl rfl yU.o.2.1 Yt yU.o.2.2 ?_)
   rw[<-tC.o];clear tC yU;go_wp2_with fail;refine Calls.mono vT.o ?_;rintro e w8 ⟨S1,U1,rfl,hS,hU,xX,yI⟩;obtain⟨F,G,rfl,_⟩:=hS.row;obtain⟨I,J,rfl,_⟩:=hU.row;clear vT qC;obtain⟨tn,vH⟩:∃tn,tn=(v.C++u.L.map (DD v.wd)).length:=⟨_,rfl⟩;rw[<-vH]at hU xX |-;have z8:=yI.size;obtain⟨Y2,xA⟩:∃Y,Y=(w8.setCell (Ze (q.heap.size) 2) (.slice F v.ss.length G)).setCell (Ze (q.heap.size) 3) (.slice I tn J):=⟨_,rfl⟩
   have t2:Tn [q.heap.size] w8 Y2:=by rw[xA];exact(AM _ _ _ _).trans (AM _ _ _ _)
   have y8:=Aa.below tI.o yI;have y2:=((y8.set 2 (.slice F v.ss.length G)).set 3 (.slice I tn J));rw[<-xA]at y2;have yC:∀b∈[q.heap.size],j.heap.size<=b/\b≠c/\b≠mm/\Af (.slice C u.D.length E)≠some b/\Af (.slice A u.ms.length B)≠some b/\Af (.slice da u.L.length dc)≠some b:=fun b hb=>by simp at hb;subst hb;obtain⟨_,_,_,rB,_⟩:=zF.o.fw;have:=rB.lt;exact⟨yO,Yw,Yw,fun e=>by have:=(zF.o.q.S e).2;omega,fun e=>by have:=(zF.o.mr.S e).2;omega,fun e=>by have:=(zF.o.dd.S e).2;omega⟩
   have yN:=Yx yC;have yT:Hid (CM Y2 base j.heap.size c d m O P L v.wd v.F v.G v.E u.A v.ps v.ls u.H u.K u.J u.ro (.slice C u.D.length E) (.slice A u.ms.length B) (.slice da u.L.length dc) mm u.D u.ms u.ms u.L):=(yS.o.below yI).Y t2 yC;have vP:Hid (BX j.heap.size V j Y2):=(zX.o.trans (BX.of (yI.mono Yw))).trans (BX.of (t2.below Yw Yu));have z2:=t2.size
   have zM:Hid (Aj Y2 Y1.heap.size (.slice F v.ss.length G) v.ss/\Aj Y2 Y1.heap.size (.slice I tn J) (v.C++u.L.map (DD v.wd))/\(∀g,Af (.slice F v.ss.length G)=some g->Af (.slice I tn J)≠some g)):=⟨hS.Y t2 (fun g hg e=>by have:=(hS.S hg).1;simp at e;omega),hU.Y t2 (fun g hg e=>by have:=(hU.S hg).1;simp at e;omega),xX⟩
   have zR:=Yx (MQ base d m O P L v.wd v.F v.G v.E u.A v.ps v.ls Y2 yT.o.I t.o.2.1.ok.ok.nd t.o.2.1.ok.ok.sz t.o.2.1.ok.ok.len t.o.2.1.ok.pl t.o.2.1.ok.ll (fun x hx=>(t.o.2.1.ok.B x hx).1));obtain⟨qB,_⟩:=yT.o.box 0 _ rfl;obtain⟨o2,g2⟩:=y8 2 _ rfl;obtain⟨o3,g3⟩:=y8 3 _ rfl;have tJ:=Yx y2;have tD:=Yx xA;have qK:Hid (tn=(v.C++u.L.map (DD v.wd)).length):=vH
   clear xA y2 y8 t2 yC hS hU xX yI vH yS zX tI;go_upto_region 16 with fail;rw[<-tD.o];clear tD o2 g2 o3 g3;go_wp2_with fail;refine Calls.mono zR.o ?_;rintro e w9 ⟨T1,P1,L1,xN,rfl,yA,zU⟩;obtain⟨zC,zE,rfl⟩:=As yA.aj;obtain⟨zA,zB,rfl⟩:=As yA.pins;obtain⟨R,U,rfl⟩:=As yA.aq;clear zR qB;have qO:=sM.o;have qE:=zF.o.bc;have z9:=zU.size;have y9:=Aa.below tJ.o zU
   obtain⟨Y3,xB⟩:∃Y,Y=(((((((w9.setCell (Ze (q.heap.size) 4) (Zg v.wd)).setCell (Ze (q.heap.size) 5) (Zg v.F)).setCell (Ze (q.heap.size) 6) (Zg v.G)).setCell (Ze (q.heap.size) 7) (Zg v.E)).setCell (Ze (q.heap.size) 8) (.slice zC u.A.length zE)).setCell (Ze (q.heap.size) 9) (.slice zA v.ps.length zB)).setCell (Ze (q.heap.size) 10) (.slice R v.ls.length U)):=⟨_,rfl⟩
   have t3:Tn [q.heap.size] w9 Y3:=by rw[xB];exact((((((AM _ _ _ _).trans (AM _ _ _ _)).trans (AM _ _ _ _)).trans (AM _ _ _ _)).trans (AM _ _ _ _)).trans (AM _ _ _ _)).trans (AM _ _ _ _)
   have y3:=(((((((y9.set 4 (Zg v.wd)).set 5 (Zg v.F)).set 6 (Zg v.G)).set 7 (Zg v.E)).set 8 (.slice zC u.A.length zE)).set 9 (.slice zA v.ps.length zB)).set 10 (.slice R v.ls.length U));rw[<-xB]at y3
   have zK:Hid (CM Y3 base j.heap.size c d m O P L v.wd v.F v.G v.E u.A v.ps v.ls u.H u.K u.J u.ro (.slice C u.D.length E) (.slice A u.ms.length B) (.slice da u.L.length dc) mm u.D u.ms u.ms u.L):=(yT.o.below zU).Y t3 yN.o;have z3:=t3.size
   obtain⟨Y4,xC⟩:∃Y,Y=((((((Y3.setCell (Ze (q.heap.size) 11) (Zg u.H)).setCell (Ze (q.heap.size) 12) (.slice C u.D.length E)).setCell (Ze (q.heap.size) 13) (.slice A u.ms.length B)).setCell (Ze (q.heap.size) 14) (Zg u.K)).setCell (Ze (q.heap.size) 15) (Zg u.J)).setCell (Ze (q.heap.size) 16) (Zg u.ro)):=⟨_,rfl⟩
   have t4:Tn [q.heap.size] Y3 Y4:=by rw[xC];exact(((((AM _ _ _ _).trans (AM _ _ _ _)).trans (AM _ _ _ _)).trans (AM _ _ _ _)).trans (AM _ _ _ _)).trans (AM _ _ _ _)
   have y4:=((((((y3.set 11 (Zg u.H)).set 12 (.slice C u.D.length E)).set 13 (.slice A u.ms.length B)).set 14 (Zg u.K)).set 15 (Zg u.J)).set 16 (Zg u.ro));rw[<-xC]at y4;have zY:Hid (CM Y4 base j.heap.size c d m O P L v.wd v.F v.G v.E u.A v.ps v.ls u.H u.K u.J u.ro (.slice C u.D.length E) (.slice A u.ms.length B) (.slice da u.L.length dc) mm u.D u.ms u.ms u.L):=zK.o.Y t4 yN.o;have z4:=t4.size
   have yM:Tn [q.heap.size] w9 Y4:=t3.trans t4;have sJ:Hid (BX j.heap.size V j Y4):=(vP.o.trans (BX.of (zU.mono Yw))).trans (BX.of (yM.below Yw Yu));have tK:=Yx y4;have yL:=HX.o Y4 sJ.o
   have yB:Bf Y4 Y2.heap.size (.slice zC u.A.length zE) (.slice zA v.ps.length zB) (.slice R v.ls.length U) xN u.A v.ps v.ls:=yA.apart yM (fun b hb e=>by simp at hb;subst hb;have:=yA.lo _ e;omega);have xW:=(zM.o.1.below zU).Y yM (fun g hg e=>by have:=(zM.o.1.S hg).1;simp at e;omega);have tP:=(zM.o.2.1.below zU).Y yM (fun g hg e=>by have:=(zM.o.2.1.S hg).1;simp at e;omega)
   have xR:Hid (AU Y4 j.heap.size (.slice F v.ss.length G) (.slice I tn J) (.slice zC u.A.length zE) (.slice zA v.ps.length zB) (.slice R v.ls.length U) (.slice C u.D.length E) (.slice A u.ms.length B) xN (Bb v u)/\(∀g,Af (.slice da u.L.length dc)=some g->g∉CC (.slice F v.ss.length G) (.slice I tn J) (.slice zC u.A.length zE) (.slice zA v.ps.length zB) (.slice R v.ls.length U) (.slice C u.D.length E) (.slice A u.ms.length B) xN)):=by
    have yD:=yB.lo;have tX:∀g,Af (.slice C u.D.length E)=some g\/Af (.slice A u.ms.length B)=some g->g<q.heap.size:=fun g hg=>by
     rcases hg with e|e
     .exact(zF.o.q.S e).2
     .exact(zF.o.mr.S e).2
    have xJ:∀g,Af (.slice F v.ss.length G)=some g\/Af (.slice I tn J)=some g->Y1.heap.size<=g/\g<Y2.heap.size:=fun g hg=>by
     rcases hg with e|e
     .exact zM.o.1.S e
     .exact zM.o.2.1.S e
    refine⟨AU.apart (xW.mono Yw) (tP.mono Yw) zM.o.2.2 (yB.mono Yw) zY.o.q zY.o.mr (fun g hg=>(zF.o.ap.q g hg).2.2.1) (fun g hg e=> ?_) (fun g hg e=> ?_) (fun g g' hg rG e=> ?_),fun g hg zV=> ?_⟩
    .have:=xJ g hg;have:=yD g e;omega
    .have:=tX g hg;have:=yD g e;omega
    .have:=xJ g hg;have:=tX g' rG;omega
    .have qP:=(zF.o.dd.S hg).2;unfold CC at zV;simp only[List.mem_append,Option.mem_toList]at zV;rcases zV with(e|e)|e|e|e
     .have:=(xJ g (.inl e)).1;omega
     .have:=(xJ g (.inr e)).1;omega
     .have:=yD g e;omega
     .exact(zF.o.ap.q g e).2.2.2 hg
     .exact(zF.o.ap.r g e).2.2 hg
   obtain⟨c1,_⟩:=zK.o.box 1 _ rfl;obtain⟨c2,_⟩:=zK.o.box 2 _ rfl;obtain⟨c3,_⟩:=zK.o.box 3 _ rfl;obtain⟨c4,_⟩:=zK.o.box 4 _ rfl;obtain⟨c5,_⟩:=zK.o.box 5 _ rfl;obtain⟨c6,_⟩:=zK.o.box 6 _ rfl;obtain⟨o4,g4⟩:=y9 4 _ rfl;obtain⟨o5,g5⟩:=y9 5 _ rfl;obtain⟨o6,g6⟩:=y9 6 _ rfl;obtain⟨o7,g7⟩:=y9 7 _ rfl;obtain⟨o8,g8⟩:=y9 8 _ rfl;obtain⟨o9,g9⟩:=y9 9 _ rfl;obtain⟨rU,sR⟩:=y9 10 _ rfl;have tE:=Yx xB
   have tG:=Yx xC;have zS:Hid (Aa Y3 q.heap.size _):=y3;clear xB xC y3 y4 y9 t3 t4 yM yA yB xW tP zU yT zK zM tJ vP;go_upto_region 17 with fail;rw[<-tE.o];clear tE o4 g4 o5 g5 o6 g6 o7 g7 o8 g8 o9 g9 rU sR;obtain⟨rV,sS⟩:=zS.o 11 _ rfl;obtain⟨rW,sT⟩:=zS.o 12 _ rfl;obtain⟨rX,sU⟩:=zS.o 13 _ rfl;obtain⟨rY,sV⟩:=zS.o 14 _ rfl;obtain⟨rZ,sW⟩:=zS.o 15 _ rfl;obtain⟨qA,sX⟩:=zS.o 16 _ rfl
   have qI:¬q.heap.size=c:=Yw
   have sI:¬c=q.heap.size:=Yw
   go_upto_region 18 with fail;rw[<-tG.o];clear tG zS c1 c2 c3 c4 c5 c6 rV sS rW sT rX sU rY sV rZ sW qA sX;have vO:¬q.heap.size=w.heap.size:=Yw
   have vM:¬c=w.heap.size:=Yw
   have zR:Hid (∀Z Z',(Aa Z q.heap.size [Zg v.wd,Zg v.U,.slice F v.ss.length G,.slice I tn J,Zg v.wd,Zg v.F,Zg v.G,Zg v.E,.slice zC u.A.length zE,.slice zA v.ps.length zB,.slice R v.ls.length U,Zg u.H,.slice C u.D.length E,.slice A u.ms.length B,Zg u.K,Zg u.J,Zg u.ro]/\Z.cell? (Ze c 8)=some (.slice da u.L.length dc))->Tn [w.heap.size] Z Z'->q.heap.size<Z.heap.size->c<Z.heap.size->Aa Z' q.heap.size [Zg v.wd,Zg v.U,.slice F v.ss.length G,.slice I tn J,Zg v.wd,Zg v.F,Zg v.G,Zg v.E,.slice zC u.A.length zE,.slice zA v.ps.length zB,.slice R v.ls.length U,Zg u.H,.slice C u.D.length E,.slice A u.ms.length B,Zg u.K,Zg u.J,Zg u.ro]/\Z'.cell? (Ze c 8)=some (.slice da u.L.length dc)):=fun Z Z' h1 h2 h3 h4=>⟨Aa.same h1.1 (h2.block _ h3 (by simpa using vO)),(World.cell?_of_block (h2.block c h4 (by simpa using vM))).trans h1.2⟩
   have zP:q.heap.size<Y4.heap.size:=tK.o.lt;have xI:c<Y4.heap.size:=zY.o.box.lt
   have s0:Aa Y4.drew q.heap.size [Zg v.wd,Zg v.U,.slice F v.ss.length G,.slice I tn J,Zg v.wd,Zg v.F,Zg v.G,Zg v.E,.slice zC u.A.length zE,.slice zA v.ps.length zB,.slice R v.ls.length U,Zg u.H,.slice C u.D.length E,.slice A u.ms.length B,Zg u.K,Zg u.J,Zg u.ro]/\Y4.drew.cell? (Ze c 8)=some (.slice da u.L.length dc):=⟨tK.o,(zY.o.box 8 _ rfl).1⟩;have x0:Aa Y4.drew w.heap.size (z20 0):=yL.2.1
   obtain⟨Z1,xD⟩:∃Z,Z=Y4.drew.setCells w.heap.size 0 (Xx:Array Value).toList:=⟨_,rfl⟩;have T1:Tn [w.heap.size] Y4.drew Z1:=by rw[xD];exact Df _ _ _ _
   have x1:Aa Z1 w.heap.size (z20 0):=by rw[xD];exact x0.ck (z20 0) rfl
   obtain⟨Z2,xE⟩:∃Z,Z=Z1.setCells w.heap.size 1 (#[Zg v.wd,Zg v.U,.slice F v.ss.length G,.slice I tn J,Zg v.wd,Zg v.F,Zg v.G,Zg v.E,.slice zC u.A.length zE,.slice zA v.ps.length zB,.slice R v.ls.length U,Zg u.H,.slice C u.D.length E,.slice A u.ms.length B,Zg u.K,Zg u.J,Zg u.ro]:Array Value).toList:=⟨_,rfl⟩;obtain⟨Z3,xF⟩:∃Z,Z=Z2.setCell (Ze (w.heap.size) 18) (Zg n):=⟨_,rfl⟩
   obtain⟨Z4,xG⟩:∃Z,Z=Z3.setCell (Ze (w.heap.size) 19) (.slice da u.L.length dc):=⟨_,rfl⟩;have s1:=zR.o _ _ s0 T1 zP xI;have T2:Tn [w.heap.size] Z1 Z2:=by rw[xE];exact Df _ _ _ _
   have x2:Aa Z2 w.heap.size (Zg 0::([Zg v.wd,Zg v.U,.slice F v.ss.length G,.slice I tn J,Zg v.wd,Zg v.F,Zg v.G,Zg v.E,.slice zC u.A.length zE,.slice zA v.ps.length zB,.slice R v.ls.length U,Zg u.H,.slice C u.D.length E,.slice A u.ms.length B,Zg u.K,Zg u.J,Zg u.ro]++[Zf,Zc])):=by rw[xE];exact Aa.fp [Zg v.wd,Zg v.U,.slice F v.ss.length G,.slice I tn J,Zg v.wd,Zg v.F,Zg v.G,Zg v.E,.slice zC u.A.length zE,.slice zA v.ps.length zB,.slice R v.ls.length U,Zg u.H,.slice C u.D.length E,.slice A u.ms.length B,Zg u.K,Zg u.J,Zg u.ro] [Zf] Xu [Zf,Zc] Z1 x1 rfl
   have s2:=zR.o _ _ s1 T2 (Zr zP T1.size) (Zr xI T1.size);have T3:Tn [w.heap.size] Z2 Z3:=by rw[xF];exact AM _ _ _ _
   have x3:=x2.set 18 (Zg n);rw[<-xF]at x3;have s3:=zR.o _ _ s2 T3 (Zr zP (Zm T1.size T2.size)) (Zr xI (Zm T1.size T2.size));have T4:Tn [w.heap.size] Z3 Z4:=by rw[xG];exact AM _ _ _ _
   have x4:Aa Z4 w.heap.size (DL 0 [Zg v.wd,Zg v.U,.slice F v.ss.length G,.slice I tn J,Zg v.wd,Zg v.F,Zg v.G,Zg v.E,.slice zC u.A.length zE,.slice zA v.ps.length zB,.slice R v.ls.length U,Zg u.H,.slice C u.D.length E,.slice A u.ms.length B,Zg u.K,Zg u.J,Zg u.ro] n (.slice da u.L.length dc)):=by rw[xG];exact x3.set 19 (.slice da u.L.length dc)
   have s4:=zR.o _ _ s3 T4 (Zr zP (Zm T1.size (Zm T2.size T3.size))) (Zr xI (Zm T1.size (Zm T2.size T3.size)));have vU:Hid (Tn [w.heap.size] Y4 Z4):=((Tn.of (V:=[]) (Below.refl Y4.heap.size Y4).drew).mono Yv).trans (T1.trans (T2.trans (T3.trans T4)))
   have yY:Hid (Y4.drew.there w.heap.size 0 20/\Z1.there w.heap.size 1 17/\(Xx:Array Value).all (·.oneCell')=true/\(#[Zg v.wd,Zg v.U,.slice F v.ss.length G,.slice I tn J,Zg v.wd,Zg v.F,Zg v.G,Zg v.E,.slice zC u.A.length zE,.slice zA v.ps.length zB,.slice R v.ls.length U,Zg u.H,.slice C u.D.length E,.slice A u.ms.length B,Zg u.K,Zg u.J,Zg u.ro]:Array Value).all (·.oneCell')=true):=⟨x0.there,Aa.fg [Zf] Xu [Zf,Zc] x1,by simp[Value.oneCell'],by simp[Value.oneCell']⟩
   obtain⟨qV,qM⟩:=x2 18 _ rfl;obtain⟨qW,qN⟩:=x3 19 _ rfl;have tH:=Yx x4;have sN:=Yx xD;have sO:=Yx xE;have sP:=Yx xF;have sQ:=Yx xG;have yW:=Yx (Zn s1 (Zn s2 (Zn s3 s4)));clear x0 x1 x2 x3 x4 s1 s2 s3 s4 T1 T2 T3 T4 xD xE xF xG;refine wp_region_noPanic ?_
   refine wp_region_held_drew (S:=fun Z=>Aa Z q.heap.size [Zg v.wd,Zg v.U,.slice F v.ss.length G,.slice I tn J,Zg v.wd,Zg v.F,Zg v.G,Zg v.E,.slice zC u.A.length zE,.slice zA v.ps.length zB,.slice R v.ls.length U,Zg u.H,.slice C u.D.length E,.slice A u.ms.length B,Zg u.K,Zg u.J,Zg u.ro]/\Z.cell? (Ze c 8)=some (.slice da u.L.length dc)) Yt s0 (fun hS=> ?_)
   refine Kx 0 ⟨some 84,.load 43 (.tmp 8),43,BD,#[{on:=6,ground:=.gcOnly Departure.literalInPlace}],none⟩ (.agg #[Zg v.wd,Zg v.U,.slice F v.ss.length G,.slice I tn J,Zg v.wd,Zg v.F,Zg v.G,Zg v.E,.slice zC u.A.length zE,.slice zA v.ps.length zB,.slice R v.ls.length U,Zg u.H,.slice C u.D.length E,.slice A u.ms.length B,Zg u.K,Zg u.J,Zg u.ro]) (by exact yieldsIf_load_mid Yr 43 _ rfl q.heap.size 0 rfl [Zg v.wd,Zg v.U,.slice F v.ss.length G,.slice I tn J,Zg v.wd,Zg v.F,Zg v.G,Zg v.E,.slice zC u.A.length zE,.slice zA v.ps.length zB,.slice R v.ls.length U,Zg u.H,.slice C u.D.length E,.slice A u.ms.length B,Zg u.K,Zg u.J,Zg u.ro] _ (fun Z h=>h.1.range) underlying43 rfl Yt) (by exact hS) ?_
   try simp only[Act.put,Is]
   refine EI 1 ⟨some 85,.move (.tmp 7),3,BD,#[{on:=8,ground:=.gcOnly Departure.literalInPlace}],none⟩ (Zg n) (by exact hS) ?_;try simp only[Act.put,Is]
   refine EI 2 ⟨some 86,.move (.tmp 5),134,BD,#[{on:=10,ground:=.gcOnly Departure.literalInPlace}],none⟩ (Yz c) (by exact hS) ?_;try simp only[Act.put,Is]
   refine EI 3 ⟨some 87,.nilCheck (.tmp 86),0,BD,#[BP 2,{on:=10,ground:=.gcOnly Departure.literalInPlace}],none⟩ (Yz c) (by exact hS) ?_;try simp only[Act.put,Is]
   refine EI 4 ⟨some 88,.fieldAddr 139 (.tmp 87) 3,0,BD,#[BP 3,{on:=10,ground:=.gcOnly Departure.literalInPlace}],none⟩ (Yy c 8) (by exact hS) ?_;try simp only[Act.put,Is]
   refine Kx 5 ⟨some 89,.load 22 (.tmp 88),22,BD,#[BP 4,{on:=10,ground:=.gcOnly Departure.literalInPlace}],none⟩ (.slice da u.L.length dc) (by exact Or.inl ⟨Yr,fun Z hZ=>by have h0:=hZ.2;go_simp⟩) (by exact hS) ?_;try simp only[Act.put,Is]
   refine GH 6 ⟨none,.store 45 (.tmp 4) (.const (.agg Xx)),0,BD,#[{on:=0,ground:=.textOnly Departure.literalInPlace},{on:=1,ground:=.textOnly Departure.literalInPlace},{on:=2,ground:=.textOnly Departure.literalInPlace},{on:=3,ground:=.textOnly Departure.literalInPlace},{on:=4,ground:=.textOnly Departure.literalInPlace},{on:=5,ground:=.textOnly Departure.literalInPlace}],none⟩ (fun K hK=> ?_)
   rw[if_pos Yr];refine wp_store_mid 45 _ _ rfl w.heap.size 0 Xx rfl rfl yY.o.1 Yt yY.o.2.2.1 ?_;rw[<-sN.o];refine hK.out _ _ (yW.o.1) (fun rC=> ?_);clear hK K;try simp only[Act.put]
   refine EI 7 ⟨some 90,.fieldAddr 45 (.tmp 4) 1,0,BD,#[BS 0,{on:=1,ground:=.textOnly Departure.literalInPlace},{on:=2,ground:=.textOnly Departure.literalInPlace},{on:=3,ground:=.textOnly Departure.literalInPlace},{on:=4,ground:=.textOnly Departure.literalInPlace},{on:=5,ground:=.textOnly Departure.literalInPlace},BS 6],none⟩ (Yy w.heap.size 1) (by exact rC) ?_;try simp only[Act.put,Is]
   refine GH 8 ⟨none,.store 43 (.tmp 90) (.tmp 84),0,BD,#[BP 7,BP 0,⟨6,.chain⟩,BS 0,{on:=1,ground:=.textOnly Departure.literalInPlace},{on:=2,ground:=.textOnly Departure.literalInPlace},{on:=3,ground:=.textOnly Departure.literalInPlace},{on:=4,ground:=.textOnly Departure.literalInPlace},{on:=5,ground:=.textOnly Departure.literalInPlace},BS 6],none⟩ (fun K hK=> ?_);rw[if_pos Yr]
   refine wp_store_mid 43 _ _ rfl w.heap.size 1 #[Zg v.wd,Zg v.U,.slice F v.ss.length G,.slice I tn J,Zg v.wd,Zg v.F,Zg v.G,Zg v.E,.slice zC u.A.length zE,.slice zA v.ps.length zB,.slice R v.ls.length U,Zg u.H,.slice C u.D.length E,.slice A u.ms.length B,Zg u.K,Zg u.J,Zg u.ro] rfl rfl yY.o.2.1 Yt yY.o.2.2.2 ?_;rw[<-sO.o];refine hK.out _ _ (yW.o.2.1) (fun rD=> ?_);clear hK K
   try simp only[Act.put]
   refine EI 9 ⟨some 91,.fieldAddr 45 (.tmp 4) 2,0,BD,#[BS 0,BS 1,{on:=2,ground:=.textOnly Departure.literalInPlace},{on:=3,ground:=.textOnly Departure.literalInPlace},{on:=4,ground:=.textOnly Departure.literalInPlace},{on:=5,ground:=.textOnly Departure.literalInPlace},BS 6,BS 7,BS 8],none⟩ (Yy w.heap.size 18) (by exact rD) ?_;try simp only[Act.put,Is]
   refine GH 10 ⟨none,.store 3 (.tmp 91) (.tmp 85),0,BD,#[BP 9,BP 1,⟨8,.chain⟩,BS 0,BS 1,{on:=2,ground:=.textOnly Departure.literalInPlace},{on:=3,ground:=.textOnly Departure.literalInPlace},{on:=4,ground:=.textOnly Departure.literalInPlace},{on:=5,ground:=.textOnly Departure.literalInPlace},BS 6,BS 7,BS 8],none⟩ (fun K hK=> ?_);go_simp;rw[<-sP.o];refine hK.out _ _ (yW.o.2.2.1) (fun rE=> ?_)
   clear hK K;try simp only[Act.put,Is]
   refine EI 11 ⟨some 92,.fieldAddr 45 (.tmp 4) 3,0,BD,#[BS 0,BS 1,BS 2,BS 3,BS 4,BS 5,BS 6,BS 7,BS 8,BS 9,BS 10],none⟩ (Yy w.heap.size 19) (by exact rE) ?_;try simp only[Act.put,Is]
   refine GH 12 ⟨none,.store 22 (.tmp 92) (.tmp 89),0,BD,#[BP 11,BP 5,⟨10,.chain⟩,BS 0,BS 1,BS 2,BS 3,BS 4,BS 5,BS 6,BS 7,BS 8,BS 9,BS 10],none⟩ (fun K hK=> ?_);go_simp;rw[<-sQ.o];refine hK.out _ _ (yW.o.2.2.2) (fun xW=> ?_);clear hK K;try simp only[Act.put,Is]
   refine wpAnyH_done Yt ?_ _;refine NoPanic.normal ?_;obtain⟨yF,zG⟩:∃Y,Y=Z4.setCell (Ze k 0) (.int .i32 0):=⟨_,rfl⟩;have vJ:Tn [k] Z4 yF:=by rw[zG];exact AM _ _ _ _
   have qS:=xP.o;have tU:=Aa.same yL.1 (vU.o.block k (by have:=yL.1.lt;omega) Yu);obtain⟨l0,g0⟩:=tU 0 _ rfl;have sG:=Aa.same tH.o (vJ.block _ (Aa.lt tH.o) Yu);have tF:Tn [w.heap.size,k] Y4 yF:=(vU.o.mono Yv).trans (vJ.mono Yv)
   have eV:([Zg v.wd,Zg v.U,.slice F v.ss.length G,.slice I tn J,Zg v.wd,Zg v.F,Zg v.G,Zg v.E,.slice zC u.A.length zE,.slice zA v.ps.length zB,.slice R v.ls.length U,Zg u.H,.slice C u.D.length E,.slice A u.ms.length B,Zg u.K,Zg u.J,Zg u.ro]:Zj)=Bx (Bb v u) (.slice F v.ss.length G) (.slice I tn J) (.slice zC u.A.length zE) (.slice zA v.ps.length zB) (.slice R v.ls.length U) (.slice C u.D.length E) (.slice A u.ms.length B):=by have h:=yE.o.2.1;unfold Bx Bb;simp only[<-h]
   have vK:Hid (CKP v N lo w (.returned (.agg (DL 0 [Zg v.wd,Zg v.U,.slice F v.ss.length G,.slice I tn J,Zg v.wd,Zg v.F,Zg v.G,Zg v.E,.slice zC u.A.length zE,.slice zA v.ps.length zB,.slice R v.ls.length U,Zg u.H,.slice C u.D.length E,.slice A u.ms.length B,Zg u.K,Zg u.J,Zg u.ro] n (.slice da u.L.length dc)).toArray)) yF):=by
    refine⟨yL.2.2.trans (tF.below (by have:=yL.2.2.size;omega) Yu),some (u,n),_,vW.o,rfl,_,_,_,_,_,_,_,xN,_,by rw[eV],(xR.o.1.stays tF (fun b hb zV=> ?_)).mono Yw,(zY.o.dd.Y tF (fun g hg zV=> ?_)).mono Yw,xR.o.2⟩
    .have:=xR.o.1.lo b zV;simp at hb;omega
    .have:=(zY.o.dd.S hg).1;simp at zV;omega
   have HU:=Yx (Zn l0 g0);have vL:=Yx sG;have zH:=Yx zG;clear zG l0 g0 sG tF vJ eV tU;go_wp2_with fail;refine leaves_cons (f:=70) (args:= #[Yz k]) Yv (by simp[go_sem]) ?_;refine(unlock_deferred Ok ⟨k,0,none⟩ .returning _ HU.o.1 HU.o.2).mono ?_;rintro o u' sF ⟨rfl,rfl,rfl⟩;rw[<-zH.o]
   exact⟨_,Ce results25 _ _ w.heap.size (DL 0 [Zg v.wd,Zg v.U,.slice F v.ss.length G,.slice I tn J,Zg v.wd,Zg v.F,Zg v.G,Zg v.E,.slice zC u.A.length zE,.slice zA v.ps.length zB,.slice R v.ls.length U,Zg u.H,.slice C u.D.length E,.slice A u.ms.length B,Zg u.K,Zg u.J,Zg u.ro] n (.slice da u.L.length dc)) _ rfl (Aa.range vL.o) underlying45 rfl Yt,vK.o⟩
end
theorem IP.small{x:Option (UR×Nat)}{b:Zj}(h:IP v x lo w b):b.length=20/\∀y∈b,y.oneCell'=true:=by
 cases x with
 |none=>have e:b=z20 1:=h;rw[e];exact⟨rfl,by simp[z20,Value.oneCell']⟩
 |some p=>obtain⟨S,U,T,P,L,Q,M,g,D,rfl,d,f,_⟩:=h;obtain⟨a,e,_⟩:=d.io;obtain⟨_,_,c,_⟩:=f.row;rw[e,c];exact⟨rfl,by simp[DL,Bx,Value.oneCell']⟩
theorem IP.stays{x:Option (UR×Nat)}{j:Zh}{V:List Nat}(h:IP v x lo w c)(i:Tn V w j)(f:∀b∈V,b<lo):IP v x lo j c:=by
 cases x with
 |none=>exact h
 |some p=>obtain⟨S,U,T,P,L,Q,M,n,D,rfl,d,e,k⟩:=h;exact⟨S,U,T,P,L,Q,M,n,D,rfl,d.stays i (fun b l a=>by have:=d.lo b a;have:=f b l;omega),e.Y i (fun g m a=>by have:=(e.S m).1;have:=f g a;omega),k⟩
theorem IP.mono{x:Option (UR×Nat)}{a:Nat}{b:Zj}(h:IP v x lo w b)(c:a<=lo):IP v x a w b:=by
 cases x with
 |none=>exact h
 |some p=>obtain⟨S,U,T,P,L,Q,M,g,D,rfl,e,f,d⟩:=h;exact⟨S,U,T,P,L,Q,M,g,D,rfl,e.mono c,f.mono c,d⟩
theorem Tb(v:Vd)(a:Va)(b:Int)(g h:Nat)(w:Zh)(Z:Ca w w.heap.size a v)(hf:Dl v)(U:Env w)(R:a.i=some ⟨g,0,none⟩)(M:a.g=some ⟨h,0,none⟩):
 Calls prog 7 #[.agg (Xz v a),Zg b] w (Ma v b w):=by
 obtain⟨W,s⟩:∃W,W=(w.alloc (.cells (Xz v a) 43)).alloc (.cells Xx 45):=⟨_,rfl⟩;have q:=(Bo s).1;have zW:=(Bo s).2.1;have xV:=(Bo s).2.2.1;have xZ:Aa W (w.heap.size+1) (z20 0):=(Bo (k:=z20 0) s).2.2.2;have i:Hid (∀X,Zz W X->Aa X w.heap.size (Xy v a)/\Aa X (w.heap.size+1) (z20 0)/\Zz w X):=fun X V=>⟨Aa.below xV V,Aa.below (v:=Zf) xZ V,q.trans (V.mono q.size)⟩
 have A:=Yx (SO v a W (Z.j q) hf (U.below q));have E:Hid (Ca W W.heap.size a v/\Env W):=⟨Z.j q,U.below q⟩;have p:=Yx s;have I:=Yx (Zb R M);clear s xV xZ Z U R M;by_cases hun:0<=b/\b<=10000
 .obtain⟨N,rfl⟩:∃N:Nat,b=N:=⟨b.toNat,Yw⟩;have hN:N<=10000:=Yw
  have h1:¬(N:Int)<0:=Yw
  have h2:¬(10000:Int)<N:=Yw
  go_enter func7,ntmps7;go_upto_region 1 with fail;rw[<-p.o];clear p;go_wp2_with (refine wpList_load_mid rfl 43 _ rfl w.heap.size 0 rfl (Xy v a) _ (i.o W (Below.refl _ _)).1.range underlying43 rfl Yt ?_);refine Calls.mono A.o ?_;rintro e F ⟨C,⟨Q,rfl⟩|⟨r,k,d,m,O,P,L,base,D,rfl,J⟩⟩
  .have n:Hid (¬(FY v/\0<=(N:Int)/\(N:Int)<=10000)):=fun h=>Q h.1;clear Q A;have c:=Yx (Iq (X:=F) (i.o F C).2);go_wp2_with (refine wpList_store_mid rfl 45 _ _ rfl (w.heap.size+1) 0 (Xm 1) rfl rfl c.o.1 Yt c.o.2.1 ?_);change bodyPost _ _ _ _ _ (F.setCells (w.heap.size+1) 0 (z20 1))
   refine bodyPost_ret (Ce results7 _ _ (w.heap.size+1) (z20 1) _ rfl c.o.2.2.1.range underlying45 rfl Yt) rfl ?_;exact⟨none,z20 1,.inl ⟨n.o,rfl⟩,rfl,rfl,c.o.2.2.2⟩
  .have HC:=Yx (Vg v a N hN r W.heap.size k d m base g h O P L W F D J (Zx) C E.o.1 hf E.o.2 I.o.1 I.o.2);have zA:Hid (DZ v r):=D;clear D J A;go_wp2_with fail;refine Calls.mono HC.o ?_;rintro o B ⟨zF,x,f,K,rfl,T⟩;have zE:Below W.heap.size W B:=C.trans zF;have j:=i.o B zE;have z:=T.small;obtain⟨S,t⟩:∃Y,Y=B.setCells (w.heap.size+1) 0 f.toArray.toList:=⟨_,rfl⟩
   have t9:Tn [w.heap.size+1] B S:=by rw[t];exact Df _ _ _ _
   have x9:Aa S (w.heap.size+1) f:=by rw[t];exact j.2.1.ck f (by rw[z.1];rfl)
   have l:Hid (B.there (w.heap.size+1) 0 f.toArray.size/\f.length=20/\∀u∈f,u.oneCell'=true):=⟨by rw[show f.toArray.size=20 from by rw[List.size_toArray];exact z.1];exact j.2.1.there,z⟩;have G:Hid (Ma v N w (.returned (.agg f.toArray)) S):=⟨x,f,.inr ⟨r,zA.o,hun,by rw[Int.toNat_natCast];exact K⟩,rfl,(T.stays t9 Yu).mono Yw,j.2.2.trans (t9.below j.2.2.size Yv)⟩
   have zC:=Yx x9;have zB:=Yx t;clear t x9 t9 K T z j HC;go_wp2_with (refine wpList_store_mid rfl 45 _ _ rfl (w.heap.size+1) 0 f.toArray rfl rfl l.o.1 (by rw[List.size_toArray,l.o.2.1];kernel_rfl) (all_oneCell_toArray l.o.2.2) ?_);rw[<-zB.o];exact bodyPost_ret (Ce results7 _ _ (w.heap.size+1) f _ rfl (Aa.range zC.o) underlying45 rfl (by rw[l.o.2.1];kernel_rfl)) rfl G.o
 .have n:Hid (¬(FY v/\0<=b/\b<=10000)):=fun h=>hun h.2;by_cases h1:b<0
  .clear hun A E;go_enter func7,ntmps7;go_upto_region 1 with fail;rw[<-p.o];clear p;have c:=Yx (Iq (X:=W) (i.o W (Below.refl _ _)).2);go_wp2_with (refine wpList_store_mid rfl 45 _ _ rfl (w.heap.size+1) 0 (Xm 1) rfl rfl c.o.1 Yt c.o.2.1 ?_);change bodyPost _ _ _ _ _ (W.setCells (w.heap.size+1) 0 (z20 1))
   refine bodyPost_ret (Ce results7 _ _ (w.heap.size+1) (z20 1) _ rfl c.o.2.2.1.range underlying45 rfl Yt) rfl ?_;exact⟨none,z20 1,.inl ⟨n.o,rfl⟩,rfl,rfl,c.o.2.2.2⟩
  .have h2:(10000:Int)<b:=Yw
   clear hun A E;go_enter func7,ntmps7;go_upto_region 1 with fail;rw[<-p.o];clear p;have c:=Yx (Iq (X:=W) (i.o W (Below.refl _ _)).2);go_wp2_with (refine wpList_store_mid rfl 45 _ _ rfl (w.heap.size+1) 0 (Xm 1) rfl rfl c.o.1 Yt c.o.2.1 ?_);change bodyPost _ _ _ _ _ (W.setCells (w.heap.size+1) 0 (z20 1))
   refine bodyPost_ret (Ce results7 _ _ (w.heap.size+1) (z20 1) _ rfl c.o.2.2.1.range underlying45 rfl Yt) rfl ?_;exact⟨none,z20 1,.inl ⟨n.o,rfl⟩,rfl,rfl,c.o.2.2.2⟩
namespace ExactClear
theorem Ma.specLaw{n:Int}{a:Zh}(g:Dl v)(h:Ma v n w e a):∃(o:Option (UR×Nat)) (ds:Zj),e=.returned (.agg ds.toArray)/\(Dl v/\Ft v n o)/\Rk (IQ v o) a.heap.size a ds/\Zz w a:=by obtain⟨o,c,d,rfl,f,b⟩:=h;exact⟨o,c,rfl,⟨g,d⟩,(f.oa b.size).ra,b⟩
theorem Ma.implLaw{n:Int}{a:Zh}(g:Dl v)(h:Ma v n w e a):∃(o:Option (UR×Nat)) (ds:Zj),e=.returned (.agg ds.toArray)/\(Dl v/\Ft v n o)/\JZ (IQ v o) (IQ v o).v (IQ v o).L w.heap.size a.heap.size a ds/\Zz w a:=by obtain⟨o,c,d,rfl,f,b⟩:=h;exact⟨o,c,rfl,⟨g,d⟩,f.oa b.size,b⟩
theorem walk(v:Vd)(a:Va)(n:Int)(w:Zh)(x:Env w)(r:Ca w w.heap.size a v)(z:Wq v):
 Calls prog 3 #[.agg (Xz v a),Zg n] w fun e B=>e=.returned (.bool true)/\Zz w B:=by
 refine walk_gen (D:=Option (UR×Nat)) (fun o=>Dl v/\Ft v n o) (XL v) (Rj v) (fun _ _ _ _ _=>True) (fun o=>Rk (IQ v o)) (fun o=>JZ (IQ v o) (IQ v o).v (IQ v o).L) (fun o=>UW (IQ v o)) (Dl v) (Xy v a) n w rfl (fun b=>Acr v b) (fun o d=>Acs _ (d.2.fit d.1)) (fun o d=>Abj _ (d.2.fit d.1)) (fun o C h u=>h.2.cj u.2) (fun X c=>Qz v a X (r.j c) z) (fun b X c=>UU v a w X r b c) ?_ ?_
 .rintro b X t c ⟨g,k,l,m,p,f,j,rfl,i,q⟩;refine(SY v (GL g k l m p f j v) n X i ⟨by simp[GL],by simp[GL],Zx⟩ b (fun A=>Acu i q b A)).mono (fun o s h=>Ma.specLaw b h)
 .rintro b X t c ⟨g,k,l,m,p,f,j,rfl,i,q⟩;exact(Tb v (GL g k l m p f j v) n f j X i b (x.below c) rfl rfl).mono (fun o s h=>Ma.implLaw b h)
end ExactClear
section
open Go.ChangeShapes Go.WideShapes Go.ChangeAt Go.RowKit Go.Deep
theorem Ep:prog.cellsOf 3=1:=Yt
theorem FG:prog.cellsOf 22=1:=Yt
theorem ZO:prog.cellsOf 150=2:=Yt
theorem Acw:prog.cellsOf 152=4:=Yt
theorem Adl:prog.cellsOf 155=2:=Yt
theorem Abp:prog.cellsOf 158=3:=Yt
theorem Abq:prog.cellsOf 29=7:=Yt
theorem cKs:prog.cellsOf 25=1:=Yt
theorem cPs:prog.cellsOf 26=1:=Yt
theorem cLs:prog.cellsOf 27=1:=Yt
section
variable {H:Type} {enc:TypeId×Value->H} {W:Zh} {base:Nat} {spare:Nat->Bool} {held:Bool} {fuel:Nat} {y:DataW H×List MemPlace}
theorem Cz{v:Value}(h:DataW.trod enc prog W base spare held fuel 3 [v]=some y):∃n,v=Zg n/\(Lit.int .i64 n).wf=true:=by obtain⟨n,a,_,b⟩:=DataW.trod_int underlying3 h;simp at a;exact⟨n,a,b⟩
theorem QN{v0 c:Value}(h:DataW.trod enc prog W base spare held fuel 150 [v0,c]=some y):
 ∃t a cap b,v0=.string t/\t.size<=maxLen/\c=.slice a (List.length b) cap/\Ad W W.heap.size a b/\b.length<=maxLen/\∀s∈b,ByteArray.size s<=maxLen:=by
 obtain⟨m,o,n,_,_,g,i⟩:=trod_struct2 underlying150 h;have d:DataW.trod enc prog W base spare held n 9 [v0]=some m:=by simpa [Gg]using g
 have e:DataW.trod enc prog W base spare held n 22 [c]=some o:=by simpa [FG]using i
 obtain⟨t,k,f⟩:=Ht d;obtain⟨a,cap,b,l,j⟩:=Gy e;exact⟨t,a,cap,b,k,f,l,j⟩
theorem Abr{α:Type}{l:List α}(h:l.length=2):∃a b,l=[a,b]:=by match l,h with|[a,b],_=>exact⟨a,b,rfl⟩
theorem WR{α:Type}{l:List α}(h:l.length=3):∃a b c,l=[a,b,c]:=by match l,h with|[a,b,c],_=>exact⟨a,b,c,rfl⟩
theorem Adm{α:Type}{l:List α}(h:l.length=4):∃a b c d,l=[a,b,c,d]:=by match l,h with|[a,b,c,d],_=>exact⟨a,b,c,d,rfl⟩
theorem Adn{α:Type}{l:List α}(h:l.length=7):∃a b c d e f g,l=[a,b,c,d,e,f,g]:=by match l,h with|[a,b,c,d,e,f,g],_=>exact⟨a,b,c,d,e,f,g,rfl⟩
theorem Vh{a:Addr}{f:Zj}(h:W.cells? base (a.add (0 *n)) n=some f)(i:0<n):∃b c,a=⟨b,c,none⟩/\b<W.heap.size:=by
 obtain⟨_,hlen,g⟩:=World.cells?_some h;obtain⟨b,c,spot⟩:=a;have e:=g 0 Yw;rw[Zv Yw]at e;have d:spot=none:=by simpa [Addr.add]using World.cell?_spot e
 subst d;rw[Go.WideShapes.add_plain,Go.WideShapes.add_plain]at e;exact⟨b,c,rfl,World.block_lt_of_cell? W ⟨b,c+0 *n+0,none⟩ e⟩
theorem Tc{a i:Nat}(h:W.cells? base ((⟨b,a,none⟩:Addr).add (i *n)) n=some c):c.length=n/\∀j v,c[j]?=some v->W.cell? (Ze b (a+i *n+j))=some v:=by obtain⟨_,hlen,d⟩:=World.cells?_some h;rw[Go.WideShapes.add_plain]at d;refine⟨hlen,fun j v e=> ?_⟩;have:=d j (by have:=(Zw e).1;omega);rw[Go.WideShapes.add_plain]at this;rw[this,e]
theorem Le{α:Type}[Inhabited α]{t e:TypeId}{n:Nat}{v:Value}(N:prog.underlying t=some (.slice e))(K:prog.cellsOf e=n)(L:0<n)(Q:Nat->Nat->α->Prop)
 (M:∀(fuel:Nat) (y:DataW H×List MemPlace) (q:Zj) (b o:Nat),DataW.trod enc prog W base spare held fuel e q=some y->q.length=n->(∀j v,q[j]?=some v->W.cell? (Ze b (o+j))=some v)->∃x,Q b o x)
 (h:DataW.trod enc prog W base spare held fuel t [v]=some y):
 ∃a cap,∃g:List α,v=.slice a g.length cap/\g.length<=maxLen/\(g=[]\/∃b c,a=some ⟨b,c,none⟩/\b<W.heap.size/\∀(i:Nat) x,g[i]?=some x->Q b (c+i *n) x):=by
 rcases open_slice N h with⟨d,_⟩|⟨a,len,cap,m,S,D,R,d,_,T,U,A,_,r⟩
 .simp at d;subst d;exact⟨none,0,[],rfl,by simp[maxLen],.inl rfl⟩
 .simp at d;subst d;have P:len<=m:=by rw[A];split<;>omega
  rw[K]at r;by_cases h0:len=0
  .subst h0;exact⟨some a,cap,[],rfl,by simp[maxLen],.inl rfl⟩
  .obtain⟨O,z,_⟩:=r 0 Yw;obtain⟨b,c,rfl,J⟩:=Vh z L;obtain⟨F,I⟩:=choose_lt (α:=α) (n:=len) (p:=fun i x=>Q b (c+i *n) x) (fun i f=>by
    obtain⟨u,B,C⟩:=r i Yw;obtain⟨E,G⟩:=Tc B;exact M _ _ u b (c+i *n) C E G)
   refine⟨some ⟨b,c,none⟩,cap,(List.range len).map F,Yv,Yu,.inr ⟨b,c,rfl,J,fun i x f=> ?_⟩⟩;rw[List.getElem?_map]at f;cases hri:(List.range len)[i]? with
   |none=>rw[hri]at f;cases f
   |some k=>rw[hri]at f;cases f;obtain⟨l,s⟩:=Zw hri;simp at l s;subst s;exact I i l
def QK(W:Zh)(b o:Nat)(k:Kd):Prop:=Lm W W.heap.size b o k/\k.sum.size<=maxLen/\k.M.size<=maxLen/\k.B.length<=maxLen/\(∀s∈k.B,s.size<=maxLen)/\(Lit.int .i64 k.born).wf=true
theorem Vi{d:Zj}(h:DataW.trod enc prog W base spare held fuel 152 d=some y)(u:d.length=4)(c:∀j v,d[j]?=some v->W.cell? (Ze b (o+j))=some v):∃k,QK W b o k:=by
 obtain⟨n,p,c2,c3,rfl⟩:=Adm u;obtain⟨I,e,_,_,_,hlen,a⟩:=DataW.trod_struct underlying152 h;obtain⟨E,F,G,rfl⟩:=WR (l:=I) hlen;have q:DataW.trod enc prog W base spare held e 9 [n]=some E:=by simpa [Gg]using a 0 _ rfl
 have r:DataW.trod enc prog W base spare held e 3 [p]=some F:=by simpa [Ep]using a 1 _ rfl
 have s:DataW.trod enc prog W base spare held e 150 [c2,c3]=some G:=by simpa [ZO]using a 2 _ rfl
 obtain⟨i,rfl,z⟩:=Ht q;obtain⟨m,rfl,B⟩:=Cz r;obtain⟨t,ra,C,D,rfl,A,rfl,x,f,g⟩:=QN s;exact⟨⟨i,m,t,D⟩,⟨c 0 _ rfl,c 1 _ rfl,c 2 _ rfl,ra,C,c 3 _ rfl,x⟩,z,A,f,g,B⟩
def QP(W:Zh)(b o:Nat)(p:Pd):Prop:=(W.cell? (Ze b o)=some (.string p.name)/\W.cell? (Ze b (o+1))=some (.string p.sum))/\p.name.size<=maxLen/\p.sum.size<=maxLen
theorem WS(h:DataW.trod enc prog W base spare held fuel 155 c=some y)(n:c.length=2)(d:∀j v,c[j]?=some v->W.cell? (Ze b (o+j))=some v):∃p,QP W b o p:=by
 obtain⟨g,i,rfl⟩:=Abr n;obtain⟨x,e,_,_,_,hlen,a⟩:=DataW.trod_struct underlying155 h;obtain⟨t,u,rfl⟩:=Abr (l:=x) hlen;have k:DataW.trod enc prog W base spare held e 9 [g]=some t:=by simpa [Gg]using a 0 _ rfl
 have m:DataW.trod enc prog W base spare held e 9 [i]=some u:=by simpa [Gg]using a 1 _ rfl
 obtain⟨s,rfl,q⟩:=Ht k;obtain⟨f,rfl,r⟩:=Ht m;exact⟨⟨s,f⟩,⟨d 0 _ rfl,d 1 _ rfl⟩,q,r⟩
def QL(W:Zh)(b o:Nat)(l:Ld):Prop:=(W.cell? (Ze b o)=some (Zg l.V)/\W.cell? (Ze b (o+1))=some (.string l.sum)/\W.cell? (Ze b (o+2))=some (Zg l.bg))/\l.sum.size<=maxLen
theorem Td(h:DataW.trod enc prog W base spare held fuel 158 c=some y)(p:c.length=3)(d:∀j v,c[j]?=some v->W.cell? (Ze b (o+j))=some v):∃l,QL W b o l:=by
 obtain⟨g,i,c2,rfl⟩:=WR p;obtain⟨z,e,_,_,_,hlen,a⟩:=DataW.trod_struct underlying158 h;obtain⟨t,u,x,rfl⟩:=WR (l:=z) hlen;have k:DataW.trod enc prog W base spare held e 3 [g]=some t:=by simpa [Ep]using a 0 _ rfl
 have m:DataW.trod enc prog W base spare held e 9 [i]=some u:=by simpa [Gg]using a 1 _ rfl
 have n:DataW.trod enc prog W base spare held e 3 [c2]=some x:=by simpa [Ep]using a 2 _ rfl
 obtain⟨r,rfl,_⟩:=Cz k;obtain⟨f,rfl,q⟩:=Ht m;obtain⟨s,rfl,_⟩:=Cz n;exact⟨⟨r,f,s⟩,⟨d 0 _ rfl,d 1 _ rfl,d 2 _ rfl⟩,q⟩
theorem EM{α:Type}{a:List α}{c:Nat}{Q:Nat->Nat->α->Prop}{R:α->Prop}(h:∀(i:Nat) x,a[i]?=some x->Q b (c+i *n) x)(e:∀b o x,Q b o x->R x):∀x∈a,R x:=fun x f=>by obtain⟨i,d⟩:=List.getElem?_of_mem f;exact e _ _ _ (h i x d)
theorem Te{v:Value}(h:DataW.trod enc prog W base spare held fuel 25 [v]=some y):∃a cap d,v=.slice a (List.length d) cap/\By W W.heap.size a d/\Ou d/\∀k∈d,(Lit.int .i64 (Kd.born k)).wf=true:=by
 haveI:Inhabited Kd:=⟨⟨ByteArray.empty,0,ByteArray.empty,[]⟩⟩
 obtain⟨a,cap,d,rfl,e,o⟩:=Le underlying25 Acw Yw (QK W) (fun _ _ _ _ _ g j l=>Vi g j l) h;rcases o with rfl|⟨b,f,rfl,m,c⟩
 .exact⟨a,cap,[],rfl,.inl rfl,⟨e,Yv,Yv,Yv,Yv⟩,Yv⟩
 .refine⟨_,cap,d,rfl,.inr ⟨b,f,rfl,m,fun i k n=>(c i k n).1⟩,⟨e,EM c (fun _ _ _ q=>q.2.1),EM c (fun _ _ _ q=>q.2.2.1),EM c (fun _ _ _ q=>q.2.2.2.1),EM c (fun _ _ _ q=>q.2.2.2.2.1)⟩,EM c (fun _ _ _ q=>q.2.2.2.2.2)⟩
theorem Vj{v:Value}(h:DataW.trod enc prog W base spare held fuel 26 [v]=some y):∃a cap c,v=.slice a (List.length c) cap/\AG W W.heap.size a c/\Ov c:=by
 haveI:Inhabited Pd:=⟨⟨ByteArray.empty,ByteArray.empty⟩⟩
 obtain⟨a,cap,c,rfl,e,o⟩:=Le underlying26 Adl Yw (QP W) (fun _ _ _ _ _ g j l=>WS g j l) h;rcases o with rfl|⟨b,f,rfl,m,d⟩
 .exact⟨a,cap,[],rfl,.inl rfl,⟨e,Yv,Yv⟩⟩
 .exact⟨_,cap,c,rfl,.inr ⟨b,f,rfl,m,fun i k n=>(d i k n).1⟩,⟨e,EM d (fun _ _ _ q=>q.2.1),EM d (fun _ _ _ q=>q.2.2)⟩⟩
theorem QO{v:Value}(h:DataW.trod enc prog W base spare held fuel 27 [v]=some y):∃a cap c,v=.slice a (List.length c) cap/\AI W W.heap.size a c/\Ow c:=by
 haveI:Inhabited Ld:=⟨⟨0,ByteArray.empty,0⟩⟩
 obtain⟨a,cap,c,rfl,d,o⟩:=Le underlying27 Abp Yw (QL W) (fun _ _ _ _ _ g j l=>Td g j l) h;rcases o with rfl|⟨b,f,rfl,m,e⟩
 .exact⟨a,cap,[],rfl,.inl rfl,⟨d,Yv⟩⟩
 .exact⟨_,cap,c,rfl,.inr ⟨b,f,rfl,m,fun i k n=>(e i k n).1⟩,⟨d,EM e (fun _ _ _ q=>q.2)⟩⟩
end
end
section
section
open Go.ChangeShapes Go.WideShapes Go.ChangeAt Go.RowKit Go.Deep
variable {H:Type} {enc:TypeId×Value->H} {W:Zh} {base:Nat} {spare:Nat->Bool} {held:Bool}
theorem Ado{α:Type}{l:List α}(h:l.length=6):∃a b c d e f,l=[a,b,c,d,e,f]:=by match l,h with|[a,b,c,d,e,f],_=>exact⟨a,b,c,d,e,f,rfl⟩
end
end
end Go.Proofs.YtcankpdbabaacaaGreatDoor
