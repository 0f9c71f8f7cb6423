import Derived.Test.YtmjlkgpekcnacaaGreatX23
set_option maxRecDepth 100000
set_option maxHeartbeats 16000000
namespace Go.Proofs.YtmjlkgpekcnacaaGreat
open Go.ChangeShapes Go.WideShapes Go.ChangeAt Go.RowKit _root_.Go.Proofs.Tryz
variable{w wr X:Zh}{b n c q size:Nat}{a:Zk}{p k:Int}{d l:Zj}{e:TypeId}{v:Value}
structure FO (w wr:Zh) (b:Nat) (a:Zk) (n c:Nat) (p k:Int) (q:Nat) (vs:Zj):Prop where
 rd:∃p',AE wr b a n c p'/\p<=p'/\p'<=p+k
 gr:w.grownBy wr (some b)
 z:Aa wr w.heap.size Bz
 x:Aa wr q vs
 rv:CX (fun g=>g<=w.heap.size\/g=q) wr vs
 lt:w.heap.size<q
theorem CX.less{p a:Nat->Prop}{b:Zj}(h:CX p w b)(i:∀g,a g->p g):CX a w b:=by obtain⟨u,e,h⟩:=h;exact⟨u,e,fun V c d=>h V c (fun g f=>i g (d g f))⟩
theorem FO.dt(h:FO w wr b a n c p k q d)(f:wr.grownBy X (some b))(j:b<w.heap.size):Aa X q d/\CX (fun g=>g<=w.heap.size\/g=q) X d/\Aa X w.heap.size Bz/\w.grownBy X (some b):=by
 have m:=h.lt;refine⟨?_,h.rv.I (Tn.grown (V:=[b]) f Yu) Yt,h.z.aw f Yv,Am h.gr f⟩;obtain⟨v,l,e⟩:∃v l,d=v::l:=by
  have:=h.rv.zero.len.1;cases d with
  |nil=>simp at this
  |cons v l=>exact⟨v,l,rfl⟩
 have i:=h.x;rw[e]at i |-;exact i.aw f Yv
theorem FO.go{e:Int}{g:Zj}(h:FO w wr b a n c p k q g)(l:∃d,AE X b a n c d/\p<=d/\d<=p+e)(j:wr.grownBy X (some b))(i:b<w.heap.size):FO w X b a n c p e q g:=
 have f:=h.dt j i
 ⟨l,f.2.2.2,f.2.2.1,f.1,f.2.1,h.lt⟩
theorem FO.more{d:Int}{e:Zj}(h:FO w wr b a n c p k q e)(t:k<=d):FO w wr b a n c p d q e:=by obtain⟨⟨r,f,g,s⟩,i,j,l,m,o⟩:=h;exact⟨⟨r,f,g,Yv⟩,i,j,l,m,o⟩
theorem FO.fin(h:FO w wr b a n c p k q d)(m:d.length=17)(o:b<w.heap.size):
 wr.there w.heap.size 0 d.toArray.size/\Aa (wr.setCells w.heap.size 0 d.toArray.toList) w.heap.size d/\CX (fun g=>g<w.heap.size) (wr.setCells w.heap.size 0 d.toArray.toList) d/\(∃j,AE (wr.setCells w.heap.size 0 d.toArray.toList) b a n c j/\p<=j/\j<=p+k)/\w.grownBy (wr.setCells w.heap.size 0 d.toArray.toList) (some b):=by
 have f:=AL w.heap.size d 0 wr;have e:=h.gr;refine⟨?_,h.z.au d (by rw[m];rfl),CX.less (h.rv.I f Yu) (fun g e=> .inl Yv),?_,⟨f.os.trans e.os,f.tape.trans e.tape,f.output.trans e.output,Zm e.size f.size,fun i l r=>(f.block i (Zr l e.size) Yt).trans (e.block i l r)⟩⟩
 .rw[show d.toArray.size=17 from by rw[List.size_toArray];exact m];exact h.z.there
 .obtain⟨j,s,t⟩:=h.rd;exact⟨j,s.I f (by simpa using o) Yt,t⟩
theorem RV.new{m f:Nat}{c j:Zh}(h:RV m c l)(t:f<m)(a:Zz c j):CX (fun g=>g<=f\/g=c.heap.size) j l:=by
 obtain⟨u,r,h⟩:=h;refine⟨u,r,fun V o q b=>h (V.filter (·<=f)) o (fun g s=>by have:=(List.mem_filter.1 s).2;simp at this;omega) ⟨b.os.trans a.os,b.tape.trans a.tape,b.output.trans a.output,Zm a.size b.size,fun i k n=>(b.block i (Zr k a.size) (fun d=> ?_)).trans (a.block i k)⟩⟩;rcases q i d with e|e
 .exact n (List.mem_filter.2 ⟨d,by simpa using e⟩)
 .omega
theorem FO.put{j vs:Zj}(z:∃f,AE X b a n c f/\p<=f/\f<=p+k)(e:w.grownBy X (some b))(s:Aa X w.heap.size Bz)(r:Aa X q j)(m:j.length=17)(o:CX (fun g=>g<=w.heap.size\/g=q) X vs)(y:w.heap.size<q)(A:b<w.heap.size):
 (vs.length=17/\∀u∈vs,u.oneCell'=true)/\X.there q 0 vs.toArray.size/\FO w (X.setCells q 0 vs.toArray.toList) b a n c p k q vs:=by
 have h:=o.zero.len;have d:=AL q vs 0 X;refine⟨h,?_,?_,?_,?_,?_,o.I d Yu,y⟩
 .rw[show vs.toArray.size=j.length from by rw[List.size_toArray,m];exact h.1];exact r.there
 .obtain⟨f,v,x⟩:=z;exact⟨f,v.I d Yt Yt,x⟩
 .exact⟨d.os.trans e.os,d.tape.trans e.tape,d.output.trans e.output,Zm e.size d.size,fun i l t=>(d.block i (Zr l e.size) Yt).trans (e.block i l t)⟩
 .exact Aa.same s (d.block _ s.lt Yt)
 .exact r.au vs (by rw[m];exact h.1)
theorem OQ(b:Nat)(a:Zk)(n c:Nat)(p:Int)(w:Zh)(h:AE w b a n c p)(hp:0<=p)(yL:p<=700000):
 Calls prog 42 #[.pointer (some ⟨b,0,none⟩)] w fun e w'=>∃vs,e=.returned (.agg vs.toArray)/\CX (fun g=>g<w.heap.size) w' vs/\GN w w' b a n c p 40000:=by
 have L:=h.lt;obtain⟨W,U⟩:∃W,W=w.alloc (.cells #[.int .i64 0,.int .i64 0,.slice none 0 0,.slice none 0 0,.int .i64 0,.int .i64 0,.int .i64 0,.int .i64 0,.slice none 0 0,.slice none 0 0,.slice none 0 0,.int .i64 0,.slice none 0 0,.slice none 0 0,.int .i64 0,.int .i64 0,.int .i64 0] 80):=⟨_,rfl⟩;have bW:=(Bc U).1;have zW:=(Bc U).2.1;have HZ:Hid (Aa W w.heap.size Bz):=(Bc (l:=Bz) U).2.2
 have HR:Hid (AE W b a n c p/\w.grownBy W (some b)):=⟨h.below bW,Ae _ bW⟩;have zK:Hid (W.heap.size=w.heap.size+1):=zW;have HW:Hid _:=U;clear U bW zW h;go_enter func42,ntmps42;go_upto_region 2 with fail;rw[<-HW.o];clear HW;go_wp2_with fail;refine(AU b a n c p 6 W HR.o.1 hp (by omega) (by omega) (by omega)).mono ?_;rintro e w1 ⟨r1,rfl,yU,yV,y,g1⟩
 have P:Hid (AE w1 b a n c (p+1)/\W.grownBy w1 (some b)):=⟨y,g1⟩;clear y g1
 go_upto_if 9 with fail
 go_cut [3,9] (fun yC _ wx=>Hid (∃(l d:Int),yC=.int .i64 l/\AE wx b a n c d/\p<=d/\d<=p+2/\W.grownBy wx (some b)))
 case first=>
  by_cases q1:r1=0
  .have yD:(r1==0)=true:=by simpa using q1
   clear q1;go_wp2_with fail;refine(AU b a n c (p+1) 60 w1 P.o.1 (by omega) (by omega) (by omega) (by omega)).mono ?_;rintro e w2 ⟨r2,rfl,yW,yX,h2,g2⟩;have HM:Hid (AE w2 b a n c (p+1+1)/\W.grownBy w2 (some b)):=⟨h2,Am P.o.2 g2⟩;clear h2 g2 P HR HZ;go_wp2;go_meet;exact⟨_,p+1+1,rfl,HM.o.1,by omega,by omega,HM.o.2⟩
  .have yD:(r1==0)=false:=by simpa using q1
   clear q1;go_wp2_with fail;go_meet;exact⟨_,p+1,rfl,P.o.1,by omega,by omega,P.o.2⟩
 case rest=>
  revert wc;intro w3 hcut;obtain⟨l,p1,rfl,zR,yM,yH,zG⟩:=hcut.o;clear hcut P;have zA:Hid (w.grownBy w3 (some b)/\W.grownBy w3 (some b)):=⟨Am HR.o.2 zG,zG⟩;clear zG;go_wp2_with fail;refine(MY b a n c p1 w3 zR (by omega) (by omega)).mono ?_;rintro e w4 ⟨wd,rfl,_,zS,zH⟩;have B:Hid (w.grownBy w4 (some b)/\W.grownBy w4 (some b)/\AE w4 b a n c (p1+1)):=⟨Am zA.o.1 zH,Am zA.o.2 zH,zS⟩;clear zR zS zH zA
  go_wp2_with fail;refine Calls.mono (TJ wd l none none 0 0 [] [] w4 (.inl rfl) (.inl rfl) (fun _=>⟨rfl,rfl⟩) (fun _=>⟨rfl,rfl⟩) ⟨by simp,by simp,by simp,by simp⟩) ?_;rintro e G ⟨cd,vs,rfl,zI,J⟩;have HL:Hid (vs.length=17/\∀u∈vs,u.oneCell'=true):=zI.len;have O:=J.size
  obtain⟨W5,I⟩:∃W,W=G.alloc (.cells #[.int .i64 0,.int .i64 0,.slice none 0 0,.slice none 0 0,.int .i64 0,.int .i64 0,.int .i64 0,.int .i64 0,.slice none 0 0,.slice none 0 0,.slice none 0 0,.int .i64 0,.slice none 0 0,.slice none 0 0,.int .i64 0,.int .i64 0,.int .i64 0] 80):=⟨_,rfl⟩;have H:=(Bc I).1;have yF:=(Bc I).2.1;have x5:Aa W5 G.heap.size Bz:=(Bc (l:=Bz) I).2.2
  have E:w.heap.size<G.heap.size:=by have:=B.o.2.1.size;have:=zK.o;omega
  have s:Hid _:=FO.put (w:=w) (X:=W5) (p:=p) (k:=4) (q:=G.heap.size) (vs:=vs) ⟨p1+1,(B.o.2.2.below J).below H,by omega,by omega⟩ (Am B.o.1 (Ae _ (J.trans (H.mono O)))) (Aa.below (Aa.below (HZ.o.aw B.o.2.1 (by omega)) J) H) x5 rfl (zI.new (by have:=B.o.2.1.size;have:=zK.o;omega) H) E L;obtain⟨W6,zF⟩:∃W,W=W5.setCells G.heap.size 0 vs.toArray.toList:=⟨_,rfl⟩;rw[<-zF]at s;have zB:Hid _:=I
  have zJ:Hid _:=zF;clear zI J O H yF x5 B I zF HR HZ;have S:Hid (FO w W6 b a n c p 4 G.heap.size vs/\vs.length=17):=⟨s.o.2.2,HL.o.1⟩;go_upto_region 5 with(refine wpList_store_mid rfl 80 _ _ rfl G.heap.size 0 vs.toArray rfl rfl (by rw[<-zB.o];exact s.o.2.1) (by rw[List.size_toArray,HL.o.1];kernel_rfl) (all_oneCell_toArray HL.o.2) ?_);rw[<-zB.o,<-zJ.o];clear zB zJ s HL
  obtain⟨q,hq⟩:∃q,q=G.heap.size:=⟨_,rfl⟩;rw[<-hq]at S E |-;clear hq;obtain⟨p6,zT,yN,yI⟩:=S.o.1.rd;go_wp2_with fail;refine(AU b a n c p6 14 W6 zT (by omega) (by omega) (by omega) (by omega)).mono ?_;rintro e w7 ⟨n7,rfl,yQ,yR,zU,zN⟩;go_wp2_with fail;refine(AU b a n c (p6+1) 6 w7 zU (by omega) (by omega) (by omega) (by omega)).mono ?_;rintro e w8 ⟨n8,rfl,yS,yT,zV,zO⟩
  have H8:Hid (FO w w8 b a n c p 6 q vs/\vs.length=17):=⟨S.o.1.go ⟨p6+1+1,zV,by omega,by omega⟩ (Am zN zO) L,S.o.2⟩;clear zT zU zV zN zO S
  go_upto_if 25 with fail
  go_cut [6,25] (fun nn _ wx=>Hid (∃k:Nat,nn=.int .i64 k/\k<=25/\wx=w8))
  case first=>
   by_cases q8:n8=0
   .have yE:(n8==0)=true:=by simpa using q8
    clear q8;go_wp2;go_meet;exact⟨n7.toNat+12,by go_num,by omega,rfl⟩
   .have yE:(n8==0)=false:=by simpa using q8
    clear q8;go_wp2_with fail;go_meet;exact⟨n7.toNat,by congr 1;omega,by omega,rfl⟩
  case rest=>
   revert wc;intro w9 hcut;obtain⟨k9,rfl,zZ,rfl⟩:=hcut.o;clear hcut;go_wp2
   go_loopw [6] (fun nn wr=>∃(k:Nat) (f:Zj),nn=.int .i64 k/\k<=25/\Hid (FO w wr b a n c p (6+1200 *(25 -k)) q f/\f.length=17)) (fun nn _=>(intOf nn).toNat)
   case atStart=>exact⟨k9,vs,rfl,zZ,H8.o.1.more (by omega),H8.o.2⟩
   case round=>
    clear H8;obtain⟨k,f,rfl,hk,r⟩:=hrel;obtain⟨p0,zP,yK,yG⟩:=r.o.1.rd;by_cases hk0:0<k
    .obtain⟨Z,rfl⟩:∃Z,k=Z+1:=⟨k -1,by omega⟩;have yJ:decide ((0:Int)<((Z+1:Nat):Int))=true:=by simp
     have zX:Hid (AE wr b a n c p0):=zP;have yO:q<wr.heap.size:=by
      obtain⟨v,l,e⟩:∃v l,f=v::l:=by
       have:=r.o.2;cases f with
       |nil=>simp at this
       |cons v l=>exact⟨v,l,rfl⟩
      have hx:=r.o.1.x;rw[e]at hx;exact hx.lt
     have C:Hid (∀X,wr.grownBy X (some b)->Aa X q f/\CX (fun g=>g<=w.heap.size\/g=q) X f/\Aa X w.heap.size Bz/\w.grownBy X (some b)):=fun X hX=>by have y:=r.o.1.dt hX L;exact⟨y.1,y.2.1,y.2.2.1,y.2.2.2⟩
     clear zP;go_upto_region 10 with fail;refine DN [32,33,34,35] 4 rfl _ rfl (by kernel_rfl) (by kernel_rfl) (by kernel_rfl) (by kernel_rfl) (by kernel_rfl) (by decide) (by kernel_rfl) (fun j X=>(∃d,AE X b a n c d/\p0<=d/\d<=p0+300 *j)/\wr.grownBy X (some b)) (fun i X v=>match i with
      |0=>v=.agg f.toArray
      |1=>v=.pointer (some ⟨b,0,none⟩)
      |2=>∃kd R N Q M tk,v=.agg #[.int .i64 kd,.string R,.int .i64 N,.string Q,.int .i64 M,.int .i64 tk]/\R.size<=16/\0<=N/\N<8/\Q.size<=1/\0<=M/\M<40
      |3=>∃A,v=.agg A.toArray/\CX (fun g=>g<=w.heap.size\/g=q) X A
      |_=>True) (fun X Y=>X.grownBy Y (some b)) ?_ ⟨⟨p0,zX.o.drew,by omega,by omega⟩,⟨rfl,rfl,rfl,Zx,fun _ _ _=>rfl⟩⟩ ?_ ?_
     .intro i X Y v zY F;rcases i with _|_|_|_|_
      .exact F
      .exact F
      .exact F
      .obtain⟨A,y,h2⟩:=F;exact⟨A,y,h2.I (Tn.grown (V:=[b]) zY (by simp)) (by simp;omega)⟩
      .exact F
     .intro i o j x X hi ho hj z hd K t;rcases(show i=0\/i=1\/i=2\/i=3 by omega)with rfl|rfl|rfl|rfl<;>cases ho<;>simp only[Bb,Act.put,Zq,Zp,Zo]at t |-
      .refine wp_load_mid 80 _ rfl q 0 rfl f _ (C.o X z.2).1.range underlying80 rfl (by rw[r.o.2];kernel_rfl) ?_;exact t.out _ X rfl (AK _ _) ⟨z.1.imp (fun d h=>⟨h.1,h.2.1,by omega⟩),z.2⟩
      .go_simp;exact t.out _ X rfl (AK _ _) ⟨z.1.imp (fun d h=>⟨h.1,h.2.1,by omega⟩),z.2⟩
      .have d1:=hd ⟨1,.data⟩ (by simp) (by rfl);rw[show x 1=.pointer (some ⟨b,0,none⟩)from d1]at t |-;obtain⟨⟨d,D,zC,zE⟩,m⟩:=z;go_simp;refine(UX b a n c d X D (by omega) (by omega)).mono ?_;rintro e X' ⟨kd,R,N,Q,M,tk,rfl,a1,a2,a3,a4,a5,a6,⟨p2,yB,h3,h4⟩,zM⟩;exact t.out _ X' ⟨kd,R,N,Q,M,tk,rfl,a1,a2,a3,a4,a5,a6⟩ zM ⟨⟨p2,yB,by omega,by omega⟩,Am m zM⟩
      .have d0:=hd ⟨0,.data⟩ (by simp) (by rfl);obtain⟨kd,R,N,Q,M,tk,e2,a1,a2,a3,a4,a5,a6⟩:=hd ⟨2,.data⟩ (by simp) (by rfl);rw[show x 0=.agg f.toArray from d0,e2]at t |-;obtain⟨⟨d,D,zC,zE⟩,m⟩:=z;have yP:=m.size;go_simp;refine(TL f kd N M tk R Q X (fun g hg=>by omega) (C.o X m).2.1 a1 a2 a3 a4 a5 a6).mono ?_;rintro e X' ⟨A,rfl,hv,hb⟩
       exact t.out _ X' ⟨A,rfl,hv⟩ (Ae _ hb) ⟨⟨d,D.below hb,by omega,by omega⟩,Am m (Ae _ hb)⟩
     .intro x X z F K t;simp only[Bb,Act.put,Zq,Zp,Zo];obtain⟨A,e3,hv⟩:=F 3 (by decide);obtain⟨⟨d,D,zC,zE⟩,m⟩:=z;have s:Hid _:=FO.put (p:=p) (k:=6+1200 *(25 -(Z:Int))) ⟨d,D,by omega,by omega⟩ (C.o X m).2.2.2 (C.o X m).2.2.1 (C.o X m).1 r.o.2 hv E L;rw[e3];clear F hv D zC zE m C r
      refine wp_store_mid 80 _ _ rfl q 0 A.toArray rfl rfl s.o.2.1 (by rw[List.size_toArray,s.o.1.1];kernel_rfl) (all_oneCell_toArray s.o.1.2) ?_;refine t.out _ _ ?_;clear t K;go_wp2;exact⟨⟨Z,A,by go_num,by omega,s.o.2.2,s.o.1.1⟩,by simp[intOf]⟩
    .obtain rfl:k=0:=by omega
     have T:Hid _:=r.o.1.fin r.o.2 L;have yA:Hid (∀u∈f,u.oneCell'=true):=r.o.1.rv.zero.len.2;go_wp2_with (first
      |refine wpList_load_mid rfl 80 _ rfl q 0 rfl f _ r.o.1.x.range underlying80 rfl (by rw[r.o.2];kernel_rfl) ?_
      |refine wpList_store_mid rfl 80 _ _ rfl w.heap.size 0 f.toArray rfl rfl T.o.1 (by rw[List.size_toArray,r.o.2];kernel_rfl) (all_oneCell_toArray yA.o) ?_)
     exact bodyPost_ret (AW results42 _ _ w.heap.size f _ rfl (Aa.range T.o.2.1) underlying80 rfl (by rw[r.o.2];kernel_rfl)) rfl ⟨f,rfl,T.o.2.2.1,⟨T.o.2.2.2.1.imp (fun d h=>⟨h.1,h.2.1,by have:=h.2.2;simp at this;omega⟩),T.o.2.2.2.2⟩⟩
theorem Gj{a:Nat}{b:TypeId}{f:Array Value}{g:Nat}(h:w.ownsRow a e size v n l)(k:v.ownBlock=some g)(j:w.heap[g]?=some (.cells f b))(i:b≠e):False:=by obtain⟨c,d⟩:=Ch h k;rw[j]at d;cases d;exact i rfl
theorem JB{a:Nat}(h:w.ownsRow a e size v n d):v=Zb/\n=0\/∃g cap,v=Yz g n cap/\a<=g:=by
 rcases h.2 with b|⟨g,cap,f,rfl,c,_⟩
 .exact .inl b
 .exact .inr ⟨g,cap,rfl,c⟩
theorem CX.off{p:Nat->Prop}{w:Zh}{D:Zj}(h:CX p w D):∃(u:Vd) (a:Va) (n:Zj),NV u/\D=Bh u (.slice a.Z u.ss.length a.j) (.slice a.X u.A.length a.Y) (.slice a.T u.ks.length a.U) (.slice a.L u.ps.length a.Q) (.slice a.J u.ls.length a.P) (.slice a.g u.F.length a.qc) (.slice a.i u.ms.length a.mc)/\AY w 0 (.slice a.T u.ks.length a.U) (.slice a.L u.ps.length a.Q) (.slice a.J u.ls.length a.P) n u.ks u.ps u.ls/\∀g∈BO (.slice a.T u.ks.length a.U) (.slice a.L u.ps.length a.Q) (.slice a.J u.ls.length a.P) n,¬p g:=by
 obtain⟨u,P,h⟩:=h;obtain⟨a,x,_,N⟩:=h [] w (by simp) (Tn.of (Below.refl _ _));obtain⟨n,j⟩:=N.so;refine⟨u,a,n,P,x,j,fun g c R=> ?_⟩;have F:=j.di g c;obtain⟨X,z⟩:∃X:Zh,X={w with heap:=w.heap.setIfInBounds g (.cells #[] 27)}:=⟨_,rfl⟩;have k:X.heap[g]?=some (.cells #[] 27):=by rw[z];simp[F]
 have y:Tn [g] w X:=by rw[z];exact⟨rfl,rfl,rfl,by simp,fun b _ A=>by simp at A;simp[Ne.symm A]⟩
 obtain⟨Y,t,_,O⟩:=h [g] X (by simpa using R) y;obtain⟨l,d⟩:=O.so;rw[x]at t;simp only[Bh,List.cons.injEq]at t;obtain⟨_,_,_,_,_,_,_,_,M,L,K,_⟩:=t;rw[<-M,<-L,<-K]at d;generalize hTv:Value.slice a.T u.ks.length a.U=T at *
 by_cases hTg:T.ownBlock=some g
 .exact Gj d.aj hTg k (by decide)
 .unfold BO at c;simp only[List.mem_append,Option.mem_toList,List.mem_filterMap]at c;rcases c with c|c|c|⟨r,S,c⟩
  .exact hTg c
  .exact Gj d.pins c k (by decide)
  .exact Gj d.aq c k (by decide)
  .obtain⟨i,B⟩:=List.getElem?_of_mem S;have o:=(Zw B).1;rw[j.len]at o;have v:=Zv o;have q:i<l.length:=by rw[d.len];exact o
   have s:=Zv q;have V:(u.ks.zip n)[i]?=some (u.ks[i],r):=List.getElem?_zip_eq_some.2 ⟨v,B⟩;have W:(u.ks.zip l)[i]?=some (u.ks[i],l[i]):=List.getElem?_zip_eq_some.2 ⟨v,s⟩;have H:=Cd Ce V (show 3<4 by decide);have c2:=Cd Ce W (show 3<4 by decide);rcases JB j.aj with⟨Q,_⟩|⟨m,cap,U,_⟩
   .rw[Q]at hTv;have:u.ks.length=0:=by injection hTv
    omega
   .subst U;have E:=Ad j.aj (g:=m) rfl;have I:=j.aj.cellAt (i *4+3) (by omega);have J:=d.aj.cellAt (i *4+3) (by omega);have f:X.cell? ⟨m,i *4+3,none⟩=w.cell? ⟨m,i *4+3,none⟩:=World.cell?_of_block (a:=⟨m,i *4+3,none⟩) (y.block m E.2 (by simp;intro e;exact hTg (by rw[e];rfl)));rw[I,J,H,c2]at f;have G:l[i]=r:=by injection f
    have C:=d.B i _ _ v s;rw[G]at C;exact Gj C c k (by decide)
end Go.Proofs.YtmjlkgpekcnacaaGreat
