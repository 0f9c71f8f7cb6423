import Derived.Test.YtmjlkgpekcnacaaGreatX24
import Derived.Test.YtmjlkgpekcnacaaGreatX25
set_option maxRecDepth 100000
set_option maxHeartbeats 16000000
namespace Go.Proofs.YtmjlkgpekcnacaaGreat
open Go.ChangeShapes Go.WideShapes Go.ChangeAt Go.RowKit _root_.Go.Proofs.Tryz
structure Kl (w X:Zh) (b:Nat) (a:Zk) (n c:Nat) (p K:Int) (q:Nat) (wd now given births:Int) (T P L:Value) (zs:List (Kd×Value)) (ps:List Pd) (ls:List Ld):Prop where
 box:Aa X q [Zg wd,Zg now,Zg given,Zg births,T,P,L]
 N:BF X (w.heap.size+1) q T P L zs ps ls
 z:Aa X w.heap.size z7
 rd:∃p',AE X b a n c p'/\p<=p'/\p'<=p+K
 gr:w.grownBy X (some b)
 q:w.heap.size<q
def Sj(w X:Zh)(b:Nat)(a:Zk)(n c:Nat)(p K:Int)(q:Nat):Prop:=∃wd now given births T P L zs ps ls,Kl w X b a n c p K q wd now given births T P L zs ps ls
theorem Sk{w a:Zh}{o:Option Nat}(h:w.grownBy a o):Tn o.toList w a:=⟨h.os,h.tape,h.output,h.size,fun b c d=>h.block b c (fun e=>d (by rw[<-e];simp))⟩
theorem LS{w X Y:Zh}{b:Nat}{a:Zk}{n c:Nat}{p K:Int}{q:Nat}{R now k f:Int}{T P L y u t v:Value}{S s:List (Kd×Value)}{Q o:List Pd}{N m:List Ld}{V:List Nat}(h:Kl w X b a n c p K q R now k f T P L S Q N)(D:Tn V X Y)(z:∀x∈V,w.heap.size+1<=x){r i e d:Int}{B:Zj}(H:Aa Y q B)(C:Aa Y w.heap.size z7)(I:BF Y (w.heap.size+1) q y u t s o m)(U:b<w.heap.size)(j:Nat)(J:B.set j v=[Zg r,Zg i,Zg e,Zg d,y,u,t]):Kl w (Y.setCell (Zd q j) v) b a n c p K q r i e d y u t s o m:=by
 have M:=h.q;have l:=Bd Y q j v;obtain⟨O,F,G⟩:=h.rd;refine⟨by rw[<-J];exact H.set j v,I.I l Yu,Aa.same C (l.block _ C.lt Yt),⟨O,(F.I D (fun g A=>by have:=z g A;omega) (fun E=>by have:=z b E;omega)).I l Yt Yt,G⟩,CY (CY h.gr D (fun g A=> .inl (by have:=z g A;omega))) l Yt,M⟩
def Oh(q:Nat)(w:Zh):Nat:=match w.cell? (Zd q 6)with
 |some (.slice _ m _)=>200 -m
 |_=>0
theorem Wp(w:Zh)(g:Nat)(x y:Int)(h:Aa w g [.int .u8 x,.int .u8 y]):∃s,(convert 22 9 (Yz g 2 2)).run prog w=.ok (.string s) w/\s.size=2:=
 ⟨_,run_convert_bytes_arg (P:=prog) w 22 5 underlying22 underlying5 g 0 2 2 [x,y] rfl (fun i a=>by
  rcases(show i=0\/i=1 by omega)with rfl|rfl
  .simpa using (h 0 _ rfl).1
  .simpa using (h 1 _ rfl).1) 9 underlying9,DT [x,y]⟩
theorem Vf(b:Nat)(a:Zk)(n c:Nat)(p:Int)(w:Zh)(h:AE w b a n c p)(hp:0<=p)(vX:p<=600000):
 Calls prog 15 #[.pointer (some ⟨b,0,none⟩)] w (RW w b a n c p 50000):=by
 have yB:=h.lt;obtain⟨W,hW⟩:∃W,W=w.alloc (.cells #[.int .i64 0,.int .i64 0,.int .i64 0,.int .i64 0,.slice none 0 0,.slice none 0 0,.slice none 0 0] 27):=⟨_,rfl⟩;obtain⟨bW,zW,c7⟩:=Bc (l:=z7) hW;have HR:Hid _:=OQ b a n c p W (h.below bW) hp (by omega);have H0:Hid (Aa W w.heap.size z7/\w.grownBy W (some b)/\W.heap.size=w.heap.size+1):=⟨c7,Ae _ bW,zW⟩;have HW:Hid _:=hW;clear hW bW zW c7 h
 go_enter func15,ntmps15;go_upto_region 1 with fail;rw[<-HW.o];clear HW;go_wp2_with fail;refine Calls.mono HR.o ?_;clear HR;rintro e w1 ⟨vs,rfl,hv,CS⟩;obtain⟨u,f,rs,hf,rfl,hS,yF⟩:=hv.off;have zH:∀g∈BO (.slice f.T u.ks.length f.U) (.slice f.L u.ps.length f.Q) (.slice f.J u.ls.length f.P) rs,w.heap.size+1<=g/\g≠w1.heap.size:=fun g hg=>by have H:=yF g hg;have h2:=hS.di g hg;have h3:=H0.o.2.2;omega
 obtain⟨X0,yH⟩:∃X,X=w1.alloc (.cells #[.int .i64 u.O,.int .i64 u.D,.int .i64 u.G,.int .i64 u.C,.slice f.T u.ks.length f.U,.slice f.L u.ps.length f.Q,.slice f.J u.ls.length f.P] 27):=⟨_,rfl⟩;have bX:=(Bc (l:=[.int .i64 u.O,.int .i64 u.D,.int .i64 u.G,.int .i64 u.C,.slice f.T u.ks.length f.U,.slice f.L u.ps.length f.Q,.slice f.J u.ls.length f.P]) yH).1
 have cX:=(Bc (l:=[.int .i64 u.O,.int .i64 u.D,.int .i64 u.G,.int .i64 u.C,.slice f.T u.ks.length f.U,.slice f.L u.ps.length f.Q,.slice f.J u.ls.length f.P]) yH).2.2;have xS:(u.ks.zip rs).length=u.ks.length:=by rw[List.length_zip,hS.len,Nat.min_self]
 have xE:w.heap.size<w1.heap.size:=by have H:=CS.gr.size;have h2:=H0.o.2.2;omega
 have yO:Hid (Kl w X0 b a n c p 40000 w1.heap.size u.O u.D u.G u.C (.slice f.T u.ks.length f.U) (.slice f.L u.ps.length f.Q) (.slice f.J u.ls.length f.P) (u.ks.zip rs) u.ps u.ls):=
  ⟨cX,(hS.io zH (hf.N.w hf.sm)).below bX,Aa.below (v:=.int .i64 0) (H0.o.1.aw CS.gr (by omega)) bX,by obtain⟨p',H,h2⟩:=CS.N;exact⟨p',H.below bX,h2⟩,Am (Am H0.o.2.1 CS.gr) (Ae _ bX),xE⟩
 have xJ:Hid (∀X,X0.grownBy X (some b)->AY X 0 (.slice f.T u.ks.length f.U) (.slice f.L u.ps.length f.Q) (.slice f.J u.ls.length f.P) rs u.ks u.ps u.ls):=fun X hX=>(hS.below bX).apart (Tn.grown (V:=[b]) hX (by simp)) (fun g hg zE=>by simp at hg;have:=(zH g zE).1;omega);have HF:Hid (Gy u.ks u.ps u.ls/\∀k∈u.ks,Ht k):=⟨hf.N,hf.sm⟩;have xL:Hid _:=yH
 have xX:Hid (u.ks.length=(u.ks.zip rs).length):=xS.symm;clear yH bX cX hS yF zH hv hf CS H0 xS
 have xR:∀S U Q M,(Bh u S U (.slice f.T u.ks.length f.U) (.slice f.L u.ps.length f.Q) (.slice f.J u.ls.length f.P) Q M).toArray= #[.int .i64 u.wd,.int .i64 u.lim,S,U,.int .i64 u.O,.int .i64 u.D,.int .i64 u.G,.int .i64 u.C,.slice f.T u.ks.length f.U,.slice f.L u.ps.length f.Q,.slice f.J u.ls.length f.P,.int .i64 u.K,Q,M,.int .i64 u.R,.int .i64 u.S,.int .i64 u.ro]:=fun _ _ _ _=>rfl;rw[xR];clear xR
 have vD:∀X:Zh,(Instr.field 80 (.agg #[.int .i64 u.wd,.int .i64 u.lim,.slice f.Z u.ss.length f.j,.slice f.X u.A.length f.Y,.int .i64 u.O,.int .i64 u.D,.int .i64 u.G,.int .i64 u.C,.slice f.T u.ks.length f.U,.slice f.L u.ps.length f.Q,.slice f.J u.ls.length f.P,.int .i64 u.K,.slice f.g u.F.length f.qc,.slice f.i u.ms.length f.mc,.int .i64 u.R,.int .i64 u.S,.int .i64 u.ro]) 3).run prog X=.ok (.agg #[.int .i64 u.O,.int .i64 u.D,.int .i64 u.G,.int .i64 u.C,.slice f.T u.ks.length f.U,.slice f.L u.ps.length f.Q,.slice f.J u.ls.length f.P]) X:=fun _=>by kernel_rfl
 go_upto_region 2 with fail;rw[<-xL.o];clear xL vD;generalize w1.heap.size=q at *
 obtain⟨p1,xO,vW,vR⟩:=yO.o.rd;go_wp2_with fail;refine(AU b a n c p1 20 X0 xO (by omega) (by omega) (by omega) (by omega)).mono ?_;rintro e X1 ⟨k,rfl,k0,k1,xA,zS⟩;have zP:Hid _:=xJ.o X1 zS;have F:Hid (Kl w X1 b a n c p 40001 q u.O u.D u.G u.C (.slice f.T u.ks.length f.U) (.slice f.L u.ps.length f.Q) (.slice f.J u.ls.length f.P) (u.ks.zip rs) u.ps u.ls):=by have h:=yO.o;have hq:=h.q;exact⟨h.box.aw zS (by omega),h.N.I (Tn.grown (V:=[b]) zS (by simp)) (by simp;omega),h.z.aw zS (by omega),⟨p1+1,xA,by omega,by omega⟩,Am h.gr zS,hq⟩
 have zI:Hid (AE X1 b a n c (p1+1)):=xA;clear xO xA zS yO xJ;have vY:=F.o.q;have tA:=F.o.gr.size;obtain⟨x0,x1,x2,x3,x4,x5,x6⟩:=Aa.c7 F.o.box 0 1 2 3 4 5 6;by_cases hk3:k<3
 .
  clear x0 x1 x2 x3 x4 x5 x6;obtain⟨x0,x1,x2,x3,x4,x5,x6⟩:=Aa.c7 F.o.box 0 1 2 3 4 5 6;have xK:Hid _:=Si b a n c (p1+1) u.O u.D u.G u.C f.T f.L f.J f.U f.Q f.P u.ks u.ps u.ls X1 zI.o (by omega) (by omega) zP.o.get zP.o.jg (Dy zP.o.pins) (Dy zP.o.aq) HF.o.1 HF.o.2;clear zP HF;go_wp2_with fail;refine Calls.mono xK.o ?_;clear xK;rintro e X2 ⟨⟨cs,rfl,yS⟩,CS⟩;have tB:=CS.gr.size
  obtain⟨yM,zM,O,zB,yL,xU,R,zA,T,zC,xT,yK,yJ,e7,_,_⟩:=(yS [] X2 (by simp) (Tn.of (Below.refl _ _))).ex;subst e7;have HE:Hid (∀Y,Tn [w.heap.size] X2 Y->RW w b a n c p 50000 (.returned (.agg #[.int .i64 yM,.int .i64 zM,.int .i64 O,.int .i64 zB,.slice yL xT.length xU,.slice R yK.length zA,.slice T yJ.length zC])) Y):=fun Y hY=>by
   refine⟨⟨_,rfl,fun V Z hV B=>yS (w.heap.size::V) Z (fun g hg=> ?_) ((hY.mono (by simp)).trans (B.mono (by simp;intro g hg;exact .inr hg)))⟩,?_,CY (Am F.o.gr CS.gr) hY (by simp)⟩
   .rcases List.mem_cons.1 hg with h|h
    .have:=F.o.z.lt;omega
    .have:=hV g h;omega
   .obtain⟨p',H,h2,h3⟩:=CS.N;exact⟨p',H.I hY (by simp;omega) (by simp;omega),by omega,by omega⟩
  obtain⟨⟨y0,f0⟩,⟨y1,f1⟩,⟨y2,f2⟩,⟨y3,f3⟩,⟨y4,f4⟩,⟨y5,f5⟩,y6,f6⟩:=Jb (F.o.z.aw CS.gr (by omega));clear yS CS F zI x0 x1 x2 x3 x4 x5 x6;go_wp2;refine bodyPost_ret (v:=.agg #[.int .i64 yM,.int .i64 zM,.int .i64 O,.int .i64 zB,.slice yL xT.length xU,.slice R yK.length zA,.slice T yJ.length zC]) (by simp[results,results15,go_sem,y0,y1,y2,y3,y4,y5,y6]) rfl (HE.o _ ?_)
  repeat refine Tn.trans ?_ (Tn.set _ _ _ _ (by simp))
  exact Tn.of (Below.refl _ _)
 clear zP;by_cases hk3':k=3
 .subst hk3';clear hk3 x0 x1 x2 x3 x4 x5 x6;go_wp2_with fail;refine(AU b a n c (p1+1) 30 X1 zI.o (by omega) (by omega) (by omega) (by omega)).mono ?_;rintro e X3 ⟨x,rfl,x0,x1,xP,yT⟩;go_wp2_with fail;refine(AU b a n c (p1+1+1) 2 X3 xP (by omega) (by omega) (by omega) (by omega)).mono ?_;rintro e X4 ⟨y,rfl,y0,y1,xQ,yU⟩;obtain⟨j,rfl⟩:∃j:Nat,x=j:=⟨x.toNat,by omega⟩
  have HM:Hid _:=NU (20+j) (y==0) X4 (by omega);have xM:((20+j:Nat):Int)=20+(j:Int):=by omega
  rw[xM]at HM;have zR:Hid (Aa X4 w.heap.size z7/\w.grownBy X4 (some b)/\AE X4 b a n c (p1+1+1+1)):=⟨(F.o.z.aw yT (by omega)).aw yU (by omega),Am F.o.gr (Am yT yU),xQ⟩;clear xP xQ yT yU F xM zI;go_wp2_with fail;refine Calls.mono HM.o ?_;clear HM;rintro e X5 hM;obtain⟨ta,tm,xG,rfl,hS,yI⟩:=hM.io (q:=0) (by omega) (by omega);have vZ:=zR.o.2.1.size;have tC:=zR.o.1.lt;have HS:Hid _:=hS
  have HR:Hid ((∃p',AE X5 b a n c p'/\p<=p'/\p'<=p+50000)/\w.grownBy X5 (some b)):=⟨⟨_,zR.o.2.2.below yI,by omega,by omega⟩,Am zR.o.2.1 (Ae _ yI)⟩;obtain⟨⟨y0,f0⟩,⟨y1,f1⟩,⟨y2,f2⟩,⟨y3,f3⟩,⟨y4,f4⟩,⟨y5,f5⟩,y6,f6⟩:=Jb (Aa.below (v:=.int .i64 0) zR.o.1 yI);clear hS yI hM zR;go_wp2
  refine bodyPost_ret (v:=.agg #[.int .i64 8,.int .i64 0,.int .i64 0,.int .i64 ((20+j:Nat):Int),.slice ta xG.length tm,.slice none 0 0,.slice none 0 0]) (by simp[results,results15,go_sem,y0,y1,y2,y3,y4,y5,y6]) rfl (HS.o.fin (r:=w.heap.size) HR.o.1 HR.o.2 yB ?_ (by omega) (by omega))
  repeat refine Tn.trans ?_ (Tn.set _ _ _ _ (by simp))
  exact Tn.of (Below.refl _ _)
 have vU:4<=k:=by omega
 clear hk3 hk3';rw[xX.o]at F x4;have zZ:Hid (u.ps.length<=100/\u.ls.length<=200):=HF.o.1.n.2;clear HF;generalize u.ks.zip rs=zs at *
 obtain⟨zF,zX⟩:∃l,l=u.ps:=⟨_,rfl⟩;obtain⟨zG,zU⟩:∃l,l=u.ls:=⟨_,rfl⟩;rw[<-zX,<-zU]at F zZ;rw[<-zX]at x5;rw[<-zU]at x6;clear zX zU;generalize u.O=wd at *
 generalize u.D=now at *
 generalize u.G=given at *
 generalize u.C=births at *
 generalize f.T=ta at *
 generalize f.U=tc at *
 generalize f.L=pa at *
 generalize f.Q=pc at *
 generalize f.J=la at *
 generalize f.P=lc at *
 have G:¬k<3:=by omega
 have e2:(k==3)=false:=by simp;omega
 go_upto_region 7 with fail;go_cut [32] (fun v wx=>∃cc:Bool,v=.bool cc/\(cc=true->k=4/\0<zs.length)/\wx=X1)
 case first=>
  by_cases h4:k=4
  .subst h4;go_wp2;go_meet;exact⟨_,rfl,fun h=>⟨by first|trivial|rfl,by simpa using h⟩,rfl⟩
  .have vS:(k==4)=false:=by simpa using h4
   clear h4;go_wp2;go_meet;exact⟨_,rfl,(fun h=>by cases h),rfl⟩
 case rest=>
 revert wc;rintro X1 ⟨cc,rfl,zO,rfl⟩;clear x0 x1 x2 x3 x4 x5 x6
 go_upto_if 32 with fail
 go_cut [5,32] (fun _ _ wx=>Hid ((k=4->Sj w wx b a n c p 40001 q)/\(k≠4->wx=X1)))
 case first=>
  cases cc with
  |false=>go_wp2;go_meet;exact⟨fun _=>⟨_,_,_,_,_,_,_,_,_,_,F.o⟩,fun _=>rfl⟩
  |true=>
   obtain⟨xH,xF⟩:=zO rfl;subst xH;obtain⟨g,xC⟩:∃g,ta=some ⟨g,0,none⟩:=by
    rcases JB F.o.N.t.o with⟨_,h⟩|⟨g,cap,h,_⟩
    .omega
    .injection h with H h2 h3;exact⟨g,H⟩
   subst xC;have yP:Hid (zF.length<=100):=zZ.o.1;clear zZ zO;go_wp2
   go_loopw [5] (fun i wr=>∃m:Nat,i=.int .i64 (m:Int)/\∃P N,Hid (N.length=zF.length+m/\N.length<=100)/\Kl w wr b a n c p 40001 q wd now given births (.slice (some ⟨g,0,none⟩) zs.length tc) P (.slice la zG.length lc) zs N zG) (fun i _=>101 -(intOf i).toNat)
   case atStart=>exact⟨0,rfl,_,zF,⟨by omega,yP.o⟩,F.o⟩
   case round=>
    clear F zI;obtain⟨m,rfl,P,N,yA,I⟩:=hrel;have xV:m<=100:=by have:=yA.o;omega
    have yN:N.length<=100:=yA.o.2;obtain⟨R,zA,hP⟩:=Ax I.N.p.o;subst hP;have D:Hid _:=I;clear I;obtain⟨x5,_⟩:=D.o.box 5 _ rfl;by_cases hlt:N.length<100
    .have zV:(N.length:Int)<100:=by omega
     have zK:∀x∈(Value.slice R N.length zA).ownBlock.toList,x<wr.heap.size:=fun x hx=>(Ad D.o.N.p.o (g:=x) (by simpa using hx)).2;have zT:∀x∈(Value.slice R N.length zA).ownBlock.toList,w.heap.size+1<=x:=fun x hx=>(Ad D.o.N.p.o (g:=x) (by simpa using hx)).1;have vL:=D.o.gr.size;have vN:=D.o.z.lt;have zY:=D.o.box.lt
     have HG:Hid (∀X,Tn (Value.slice R N.length zA).ownBlock.toList wr X->Aa X q [.int .i64 wd,.int .i64 now,.int .i64 given,.int .i64 births,.slice (some ⟨g,0,none⟩) zs.length tc,.slice R N.length zA,.slice la zG.length lc]/\Aa X w.heap.size z7/\∃s:Zi,s.size<=maxLen/\X.cell? ⟨g,0,none⟩=some (.string s)):=fun X hX=>by
      have I:=D.o;have yD:∀x,x<w.heap.size+1\/x=q->x∉(Value.slice R N.length zA).ownBlock.toList:=fun x hx zE=>by
       have H:=Ad I.N.p.o (g:=x) (by simpa using zE);rcases hx with hx|hx
       .omega
       .exact I.N.p.q (by rw[<-hx];simpa using zE)
      refine⟨Aa.same I.box (hX.block _ I.box.lt (yD _ (.inr rfl))),Aa.same I.z (hX.block _ I.z.lt (yD _ (.inl (by omega)))),?_⟩;have ho:=(I.N.t.other I.N.p (by decide) hX).o;have H:=ho.cellAt 0 (by omega);obtain⟨z,zr,yE⟩:∃z zr,zs=z::zr:=by
       match zs,xF with
       |z::zr,_=>exact⟨z,zr,rfl⟩
      refine⟨z.1.sum,(I.N.w.k z.1 (by rw[yE];simp)).s,H.trans ?_⟩;rw[yE];rfl
     go_upto_region 11 with fail;clear x5;refine BS [39,40,41,42,43,44,45,46,47,48,49,50,51,52,53,54,55,56,57,58,59,60] 22 rfl _ rfl (by kernel_rfl) (by kernel_rfl) (by kernel_rfl) (by kernel_rfl) (by kernel_rfl) (by decide) (by kernel_rfl) [] (by kernel_rfl) (fun L X=>Tn (Value.slice R N.length zA).ownBlock.toList wr X/\(L 20=false->Zz wr X)) (fun i X v=>match i with
      |0=>v=.pointer (some ⟨q,5,none⟩)
      |1=>v=.slice R N.length zA
      |2=>v=.int .i64 m
      |3=>∃y:Int,v=.int .i64 y/\0<=y/\y<=10
      |4=>∃y:Int,v=.int .i64 y
      |5=>∃y:Int,v=.int .u8 y
      |6=>v=.int .i64 m
      |7=>∃y:Int,v=.int .i64 y/\0<=y/\y<=10
      |8=>∃y:Int,v=.int .i64 y
      |9=>∃y:Int,v=.int .u8 y
      |10=>∃a' y z,v=.slice (some ⟨a',0,none⟩) 2 2/\a'∉(Value.slice R N.length zA).ownBlock.toList/\Aa X a' [.int .u8 y,.int .u8 z]
      |11=>∃s:Zi,v=.string s/\s.size=2
      |12=>∃s:Zi,v=.string s/\s.size<=3
      |13=>v=.pointer (some ⟨q,4,none⟩)
      |14=>v=.slice (some ⟨g,0,none⟩) zs.length tc
      |15=>v=.pointer (some ⟨g,0,none⟩)
      |16=>v=.pointer (some ⟨g,0,none⟩)
      |17=>∃s:Zi,v=.string s/\s.size<=maxLen
      |18=>∃s u:Zi,v=.agg #[.string s,.string u]/\s.size<=3/\u.size<=maxLen
      |19=>∃a' s u,v=.slice (some ⟨a',0,none⟩) 1 1/\a'∉(Value.slice R N.length zA).ownBlock.toList/\Aa X a' [.string s,.string u]/\s.size<=3/\u.size<=maxLen
      |20=>∃g' c' y,v=.slice (some ⟨g',0,none⟩) (N.length+1) c'/\BF X (w.heap.size+1) q (.slice (some ⟨g,0,none⟩) zs.length tc) (.slice (some ⟨g',0,none⟩) (N.length+1) c') (.slice la zG.length lc) zs (N++[y]) zG
      |21=>v=.pointer (some ⟨q,5,none⟩)
      |_=>True) (fun j X Y=>Tn (Value.slice R N.length zA).ownBlock.toList X Y/\(j≠20->Zz X Y)) ?_ ⟨Tn.of (Below.refl _ _).drew,fun _=>(Below.refl _ _).drew⟩ ?_ ?_
     .intro j i X Y v yX vH vC hE B;rcases i with _|_|_|_|_|_|_|_|_|_|_|_|_|_|_|_|_|_|_|_|_|_|_
      .exact B
      .exact B
      .exact B
      .exact B
      .exact B
      .exact B
      .exact B
      .exact B
      .exact B
      .exact B
      .obtain⟨a',y,z,e,H,h2⟩:=B;exact⟨a',y,z,e,H,Aa.same h2 (hE.1.block _ h2.lt H)⟩
      .exact B
      .exact B
      .exact B
      .exact B
      .exact B
      .exact B
      .exact B
      .exact B
      .obtain⟨a',s,t,e,H,h2,h3⟩:=B;exact⟨a',s,t,e,H,Aa.same h2 (hE.1.block _ h2.lt H),h3⟩
      .obtain⟨g',c',y,e,H⟩:=B;exact⟨g',c',y,e,H.below (hE.2 (fun e=>yX e))⟩
      .exact B
      .trivial
     .intro i o' L x X hi ho hL hD hJ E K o;have J:Tn (Value.slice R N.length zA).ownBlock.toList X X/\(i≠20->Zz X X):=⟨Tn.of (Below.refl _ _),fun _=>Below.refl _ _⟩;have yR:=hJ.1.size
      have A:i≠20->∀Y,Zz X Y->Tn (Value.slice R N.length zA).ownBlock.toList wr Y/\(Bn L i 20=false->Zz wr Y):=fun h7 Y hY=>⟨hJ.1.trans (Tn.of hY),fun h9=>(hJ.2 (by unfold Bn at h9;rw[if_neg (Ne.symm h7)]at h9;exact h9)).trans (hY.mono yR)⟩
      rcases(show i=0\/i=1\/i=2\/i=3\/i=4\/i=5\/i=6\/i=7\/i=8\/i=9\/i=10\/i=11\/i=12\/i=13\/i=14\/i=15\/i=16\/i=17\/i=18\/i=19\/i=20\/i=21 by omega)with rfl|rfl|rfl|rfl|rfl|rfl|rfl|rfl|rfl|rfl|rfl|rfl|rfl|rfl|rfl|rfl|rfl|rfl|rfl|rfl|rfl|rfl<;>cases ho<;>simp only[Bb,Act.put,Zq,Zp,Zo]at o |-
      .go_simp;exact o.out _ X rfl J (A (by omega) X (Below.refl _ _))
      .have d0:=E ⟨0,.data⟩ (by simp) (by rfl);rw[show x 0=.pointer (some ⟨q,5,none⟩)from d0]at o |-;obtain⟨f1,_⟩:=HG.o X hJ.1;obtain⟨c4,_⟩:=f1 5 _ rfl;clear f1;go_simp;exact o.out _ X rfl J (A (by omega) X (Below.refl _ _))
      .go_simp;exact o.out _ X rfl J (A (by omega) X (Below.refl _ _))
      .have d:=E ⟨2,.data⟩ (by simp) (by rfl);rw[show x 2=.int .i64 m from d]at o |-;have vI:(m:Int).tdiv 10=(m:Int)/10:=Int.tdiv_eq_ediv_of_nonneg (by omega);have vJ:(m:Int).tmod 10=(m:Int)%10:=Int.tmod_eq_emod_of_nonneg (by omega);have xD:IntKind.i64.wrap ((m:Int)/10)=(m:Int)/10:=Bs (by omega) (by omega);have xE:IntKind.i64.wrap ((m:Int)%10)=(m:Int)%10:=Bs (by omega) (by omega);go_simp
       exact o.out _ X ⟨_,rfl,by omega,by omega⟩ J (A (by omega) X (Below.refl _ _))
      .obtain⟨y,G,y0,y1⟩:=E ⟨3,.data⟩ (by simp) (by rfl);rw[G]at o |-;have xD:IntKind.i64.wrap (48+y)=48+y:=Bs (by omega) (by omega);go_simp;exact o.out _ X ⟨_,rfl⟩ J (A (by omega) X (Below.refl _ _))
      .obtain⟨y,G⟩:=E ⟨4,.data⟩ (by simp) (by rfl);rw[G]at o |-;go_simp;exact o.out _ X ⟨_,rfl⟩ J (A (by omega) X (Below.refl _ _))
      .go_simp;exact o.out _ X rfl J (A (by omega) X (Below.refl _ _))
      .have d:=E ⟨6,.data⟩ (by simp) (by rfl);rw[show x 6=.int .i64 m from d]at o |-;have vI:(m:Int).tdiv 10=(m:Int)/10:=Int.tdiv_eq_ediv_of_nonneg (by omega);have vJ:(m:Int).tmod 10=(m:Int)%10:=Int.tmod_eq_emod_of_nonneg (by omega);have xD:IntKind.i64.wrap ((m:Int)/10)=(m:Int)/10:=Bs (by omega) (by omega);have xE:IntKind.i64.wrap ((m:Int)%10)=(m:Int)%10:=Bs (by omega) (by omega);go_simp
       exact o.out _ X ⟨_,rfl,by omega,by omega⟩ J (A (by omega) X (Below.refl _ _))
      .obtain⟨y,G,y0,y1⟩:=E ⟨7,.data⟩ (by simp) (by rfl);rw[G]at o |-;have xD:IntKind.i64.wrap (48+y)=48+y:=Bs (by omega) (by omega);go_simp;exact o.out _ X ⟨_,rfl⟩ J (A (by omega) X (Below.refl _ _))
      .obtain⟨y,G⟩:=E ⟨8,.data⟩ (by simp) (by rfl);rw[G]at o |-;go_simp;exact o.out _ X ⟨_,rfl⟩ J (A (by omega) X (Below.refl _ _))
      .obtain⟨y,G⟩:=E ⟨5,.data⟩ (by simp) (by rfl);obtain⟨z,e2⟩:=E ⟨9,.data⟩ (by simp) (by rfl);rw[G,e2]at o |-;have hA:Below X.heap.size X (X.alloc (.cells #[.int .u8 y,.int .u8 z] 5)):=Zy;have yC:X.heap.size∉(Value.slice R N.length zA).ownBlock.toList:=fun zE=>by have:=zK _ zE;omega
       clear G e2;go_simp;exact o.out _ _ ⟨X.heap.size,y,z,rfl,yC,Aa.new X _ _⟩ ⟨Tn.of hA,fun _=>hA⟩ (A (by omega) _ hA)
      .obtain⟨a',y,z,G,H,h2⟩:=E ⟨10,.data⟩ (by simp) (by rfl);obtain⟨s,hs,vM⟩:=Wp X a' y z h2;rw[G]at o |-;clear h2 G;go_simp;exact o.out _ X ⟨s,rfl,vM⟩ J (A (by omega) X (Below.refl _ _))
      .obtain⟨s,G,H⟩:=E ⟨11,.data⟩ (by simp) (by rfl);rw[G]at o |-;have hl:¬9223372036854775807<1+s.size:=by omega
       have vF:(⟨#[122]⟩:Zi).size=1:=rfl;go_simp;exact o.out _ X ⟨_,rfl,by rw[ByteArray.size_append,vF];omega⟩ J (A (by omega) X (Below.refl _ _))
      .go_simp;exact o.out _ X rfl J (A (by omega) X (Below.refl _ _))
      .have xY:=E ⟨13,.data⟩ (by simp) (by rfl);rw[show x 13=.pointer (some ⟨q,4,none⟩)from xY]at o |-;obtain⟨f1,_⟩:=HG.o X hJ.1;obtain⟨c4,_⟩:=f1 4 _ rfl;clear f1;go_simp;exact o.out _ X rfl J (A (by omega) X (Below.refl _ _))
      .have xZ:=E ⟨14,.data⟩ (by simp) (by rfl);rw[show x 14=.slice (some ⟨g,0,none⟩) zs.length tc from xZ]at o |-;go_simp;exact o.out _ X rfl J (A (by omega) X (Below.refl _ _))
      .have vA:=E ⟨15,.data⟩ (by simp) (by rfl);rw[show x 15=.pointer (some ⟨g,0,none⟩)from vA]at o |-;go_simp;exact o.out _ X rfl J (A (by omega) X (Below.refl _ _))
      .have d:=E ⟨16,.data⟩ (by simp) (by rfl);rw[show x 16=.pointer (some ⟨g,0,none⟩)from d]at o |-;obtain⟨_,_,s,hs,c0⟩:=HG.o X hJ.1;go_simp;exact o.out _ X ⟨s,rfl,hs⟩ J (A (by omega) X (Below.refl _ _))
      .obtain⟨s,G,hs⟩:=E ⟨12,.data⟩ (by simp) (by rfl);obtain⟨t,e2,ht⟩:=E ⟨17,.data⟩ (by simp) (by rfl);rw[G,e2]at o |-;go_simp;exact o.out _ X ⟨s,t,rfl,hs,ht⟩ J (A (by omega) X (Below.refl _ _))
      .obtain⟨s,t,G,hs,ht⟩:=E ⟨18,.data⟩ (by simp) (by rfl);rw[G]at o |-;have hA:Below X.heap.size X (X.alloc (.cells #[.string s,.string t] 58)):=Zy;have yC:X.heap.size∉(Value.slice R N.length zA).ownBlock.toList:=fun zE=>by have:=zK _ zE;omega
       clear G;go_simp;exact o.out _ _ ⟨X.heap.size,s,t,rfl,yC,Aa.new X _ _,hs,ht⟩ ⟨Tn.of hA,fun _=>hA⟩ (A (by omega) _ hA)
      .have d:=E ⟨1,.data⟩ (by simp) (by rfl);obtain⟨a',s,t,G,H,h2,hs,ht⟩:=E ⟨19,.data⟩ (by simp) (by rfl);rw[show x 1=.slice R N.length zA from d,G]at o |-;have hS:=D.o.N.below (hJ.2 hL);obtain⟨g',c',X',xB,yY,yW,yV⟩:=TF X (w.heap.size+1) _ N ⟨s,t⟩ hS.p.o a' h2 (by omega) (by omega) 24;have zN:Tn (Value.slice R N.length zA).ownBlock.toList X X':=Sk yW
       have yZ:(Value.slice (some ⟨g',0,none⟩) (N.length+1) c').ownBlock≠some q:=fun e=>by
        rcases yV with h|h
        .exact hS.p.q (h.trans (by simpa [Value.ownBlock]using e))
        .simp[Value.ownBlock]at e;omega
       have vV:(10:Nat)<=maxLen:=by unfold maxLen;omega
       have yQ:=hS.pins zN ⟨yY,yZ⟩ (fun p hp=>by rcases List.mem_append.1 hp with h|h;exact .inl h;rw[List.mem_singleton.1 h];exact .inr ⟨by simp only;omega,ht⟩) (by rw[List.length_append];simp;omega);refine CA (.tmp 40) (.tmp 58) 24 rfl rfl rfl xB ?_;exact o.out _ X' ⟨g',c',⟨s,t⟩,rfl,yQ⟩ ⟨zN,fun h=>absurd rfl h⟩ ⟨hJ.1.trans zN,fun h=>by unfold Bn at h;simp at h⟩
      .go_simp;exact o.out _ X rfl J (A (by omega) X (Below.refl _ _))
     .intro L x X hL hJ B K o;simp only[Bb,Act.put,Zq,Zp,Zo];obtain⟨g',c',y,G,hS⟩:=B 20 (by decide) (fun j=>by simp);have d:=B 21 (by decide) (fun j=>by simp);obtain⟨hB,hZ,_⟩:=HG.o X hJ.1
      have HN:Hid (Kl w (X.setCell ⟨q,5,none⟩ (.slice (some ⟨g',0,none⟩) (N.length+1) c')) b a n c p 40001 q wd now given births (.slice (some ⟨g,0,none⟩) zs.length tc) (.slice (some ⟨g',0,none⟩) (N.length+1) c') (.slice la zG.length lc) zs (N++[y]) zG):=LS D.o hJ.1 zT hB hZ hS yB 5 rfl;obtain⟨y5,f5⟩:=hB 5 _ rfl;have vK:=hB.lt;rw[G,show x 21=.pointer (some ⟨q,5,none⟩)from d]
      clear B hS hB hZ HG D hJ;go_simp;refine o.out _ _ ?_;clear o K;go_wp2;exact⟨⟨m+1,by go_num,_,N++[y],(by have:=yA.o;exact⟨by simp;omega,by simp;omega⟩),HN.o⟩,by simp[intOf];omega⟩
    .have zV:¬(N.length:Int)<100:=by omega
     have HE:Hid (Sj w wr b a n c p 40001 q):=⟨_,_,_,_,_,_,_,_,_,_,D.o⟩;clear D;go_wp2;go_meet;exact⟨fun _=>HE.o,fun h=>absurd rfl h⟩
 case rest=>
  revert wc;intro X2 HA;go_upto_region 12 with fail;go_cut [68] (fun v wx=>∃cc:Bool,v=.bool cc/\(cc=true->k=5/\0<zs.length)/\wx=X2)
  case first=>
   by_cases h5:k=5
   .subst h5;obtain rfl:X2=X1:=HA.o.2 (by omega);obtain⟨x4,_⟩:=F.o.box 4 _ rfl;go_wp2;go_meet;exact⟨_,rfl,fun h=>⟨by first|trivial|rfl,by simpa using h⟩,rfl⟩
   .have vT:(k==5)=false:=by simpa using h5
    clear h5;go_wp2;go_meet;exact⟨_,rfl,(fun h=>by cases h),rfl⟩
  case rest=>
  revert wc;rintro X2 ⟨cc,rfl,zO,rfl⟩
  go_upto_if 68 with fail
  go_cut [68] (fun _ wx=>Hid (Sj w wx b a n c p 40001 q))
  case first=>
   cases cc with
   |false=>
    have HE:Hid (Sj w X2 b a n c p 40001 q):=by
     by_cases h4:k=4
     .exact HA.o.1 h4
     .rw[HA.o.2 h4];exact⟨_,_,_,_,_,_,_,_,_,_,F.o⟩
    clear HA F zI zO;go_wp2;go_meet;exact HE
   |true=>
    obtain⟨vE,xF⟩:=zO rfl;obtain rfl:X2=X1:=HA.o.2 (by omega);subst vE;obtain⟨g,xC⟩:∃g,ta=some ⟨g,0,none⟩:=by
     rcases JB F.o.N.t.o with⟨_,h⟩|⟨g,cap,h,_⟩
     .omega
     .injection h with H h2 h3;exact⟨g,H⟩
    subst xC;have yP:Hid (zG.length<=200):=zZ.o.2;clear zZ zO HA;go_wp2
    go_loopw [73] (fun _ wr=>∃(gv:Int) (L:Value) (C:List Ld),Hid (C.length<=200)/\Kl w wr b a n c p 40001 q wd now gv births (.slice (some ⟨g,0,none⟩) zs.length tc) (.slice pa zF.length pc) L zs zF C) (fun _ wr=>Oh q wr)
    case atStart=>exact⟨_,_,zG,yP,F.o⟩
    case round=>
     clear F zI;obtain⟨O,L,C,yA,I⟩:=hrel;obtain⟨T,zC,hL⟩:=Ax I.N.l.o;subst hL;obtain⟨x6,_⟩:=I.box 6 _ rfl;have xN:Oh q wr=200 -C.length:=by unfold Oh;rw[x6]
     have xW:Hid _:=xN;have D:Hid _:=I;clear I xN;by_cases hlt:C.length<200
     .have zV:(C.length:Int)<200:=by omega
      have xI:Hid (∀x,Kl w (wr.setCell ⟨q,2,none⟩ (.int .i64 x)) b a n c p 40001 q wd now x births (.slice (some ⟨g,0,none⟩) zs.length tc) (.slice pa zF.length pc) (.slice T C.length zC) zs zF C):=fun x=>LS D.o (V:=[]) (Tn.of (Below.refl _ _)) (by simp) D.o.box D.o.z D.o.N yB 2 rfl;obtain⟨x2,f2⟩:=D.o.box 2 _ rfl;have zY:=D.o.box.lt;clear D;go_upto_region 15 with fail
      generalize wrap64 (O+1)=gv;clear x2 f2 x6;have D:Hid _:=xI.o gv;clear xI;clear zY;obtain⟨zJ,yG⟩:∃X,X=wr.setCell ⟨q,2,none⟩ (.int .i64 gv):=⟨_,rfl⟩;rw[<-yG]at D |-;clear yG;have zK:∀x∈(Value.slice T C.length zC).ownBlock.toList,x<zJ.heap.size:=fun x hx=>(Ad D.o.N.l.o (g:=x) (by simpa using hx)).2
      have zT:∀x∈(Value.slice T C.length zC).ownBlock.toList,w.heap.size+1<=x:=fun x hx=>(Ad D.o.N.l.o (g:=x) (by simpa using hx)).1;have vL:=D.o.gr.size;have vN:=D.o.z.lt;have zY:=D.o.box.lt;have yN:C.length<=200:=yA.o
      have HG:Hid (∀X,Tn (Value.slice T C.length zC).ownBlock.toList zJ X->Aa X q [.int .i64 wd,.int .i64 now,.int .i64 gv,.int .i64 births,.slice (some ⟨g,0,none⟩) zs.length tc,.slice pa zF.length pc,.slice T C.length zC]/\Aa X w.heap.size z7/\∃s:Zi,s.size<=maxLen/\X.cell? ⟨g,0,none⟩=some (.string s)):=fun X hX=>by
       have I:=D.o;have yD:∀x,x<w.heap.size+1\/x=q->x∉(Value.slice T C.length zC).ownBlock.toList:=fun x hx zE=>by
        have H:=Ad I.N.l.o (g:=x) (by simpa using zE);rcases hx with hx|hx
        .omega
        .exact I.N.l.q (by rw[<-hx];simpa using zE)
       refine⟨Aa.same I.box (hX.block _ I.box.lt (yD _ (.inr rfl))),Aa.same I.z (hX.block _ I.z.lt (yD _ (.inl (by omega)))),?_⟩;have ho:=(I.N.t.other I.N.l (by decide) hX).o;have H:=ho.cellAt 0 (by omega);obtain⟨z,zr,yE⟩:∃z zr,zs=z::zr:=by
        match zs,xF with
        |z::zr,_=>exact⟨z,zr,rfl⟩
       refine⟨z.1.sum,(I.N.w.k z.1 (by rw[yE];simp)).s,H.trans ?_⟩;rw[yE];rfl
      refine BS [77,78,79,80,81,82,83,84,85,86,87,88,89,90,91,92] 16 rfl _ rfl (by kernel_rfl) (by kernel_rfl) (by kernel_rfl) (by kernel_rfl) (by kernel_rfl) (by decide) (by kernel_rfl) [] (by kernel_rfl) (fun L X=>Tn (Value.slice T C.length zC).ownBlock.toList zJ X/\(L 14=false->Zz zJ X)) (fun i X v=>match i with
       |0=>v=.pointer (some ⟨q,6,none⟩)
       |1=>v=.slice T C.length zC
       |2=>v=.pointer (some ⟨q,2,none⟩)
       |3=>v=.int .i64 gv
       |4=>v=.pointer (some ⟨q,4,none⟩)
       |5=>v=.slice (some ⟨g,0,none⟩) zs.length tc
       |6=>v=.pointer (some ⟨g,0,none⟩)
       |7=>v=.pointer (some ⟨g,0,none⟩)
       |8=>∃s:Zi,v=.string s/\s.size<=maxLen
       |9=>v=.pointer (some ⟨q,1,none⟩)
       |10=>v=.int .i64 now
       |11=>∃y:Int,v=.int .i64 y
       |12=>∃(s:Zi) (y:Int),v=.agg #[.int .i64 gv,.string s,.int .i64 y]/\s.size<=maxLen
       |13=>∃(a':Nat) (s:Zi) (y:Int),v=.slice (some ⟨a',0,none⟩) 1 1/\a'∉(Value.slice T C.length zC).ownBlock.toList/\Aa X a' [.int .i64 gv,.string s,.int .i64 y]/\s.size<=maxLen
       |14=>∃g' c' y,v=.slice (some ⟨g',0,none⟩) (C.length+1) c'/\BF X (w.heap.size+1) q (.slice (some ⟨g,0,none⟩) zs.length tc) (.slice pa zF.length pc) (.slice (some ⟨g',0,none⟩) (C.length+1) c') zs zF (C++[y])
       |15=>v=.pointer (some ⟨q,6,none⟩)
       |_=>True) (fun j X Y=>Tn (Value.slice T C.length zC).ownBlock.toList X Y/\(j≠14->Zz X Y)) ?_ ⟨Tn.of (Below.refl _ _).drew,fun _=>(Below.refl _ _).drew⟩ ?_ ?_
      .intro j i X Y v yX vH vC hE B;rcases i with _|_|_|_|_|_|_|_|_|_|_|_|_|_|_|_|_
       .exact B
       .exact B
       .exact B
       .exact B
       .exact B
       .exact B
       .exact B
       .exact B
       .exact B
       .exact B
       .exact B
       .exact B
       .exact B
       .obtain⟨a',s,t,e,H,h2,h3⟩:=B;exact⟨a',s,t,e,H,Aa.same h2 (hE.1.block _ h2.lt H),h3⟩
       .obtain⟨g',c',y,e,H⟩:=B;exact⟨g',c',y,e,H.below (hE.2 (fun e=>yX e))⟩
       .exact B
       .trivial
      .intro i o' L x X hi ho hL hD hJ E K o;have J:Tn (Value.slice T C.length zC).ownBlock.toList X X/\(i≠14->Zz X X):=⟨Tn.of (Below.refl _ _),fun _=>Below.refl _ _⟩;have yR:=hJ.1.size
       have A:i≠14->∀Y,Zz X Y->Tn (Value.slice T C.length zC).ownBlock.toList zJ Y/\(Bn L i 14=false->Zz zJ Y):=fun h7 Y hY=>⟨hJ.1.trans (Tn.of hY),fun h9=>(hJ.2 (by unfold Bn at h9;rw[if_neg (Ne.symm h7)]at h9;exact h9)).trans (hY.mono yR)⟩
       rcases(show i=0\/i=1\/i=2\/i=3\/i=4\/i=5\/i=6\/i=7\/i=8\/i=9\/i=10\/i=11\/i=12\/i=13\/i=14\/i=15 by omega)with rfl|rfl|rfl|rfl|rfl|rfl|rfl|rfl|rfl|rfl|rfl|rfl|rfl|rfl|rfl|rfl<;>cases ho<;>simp only[Bb,Act.put,Zq,Zp,Zo]at o |-
       .go_simp;exact o.out _ X rfl J (A (by omega) X (Below.refl _ _))
       .have d0:=E ⟨0,.data⟩ (by simp) (by rfl);rw[show x 0=.pointer (some ⟨q,6,none⟩)from d0]at o |-;obtain⟨f1,_⟩:=HG.o X hJ.1;obtain⟨c4,_⟩:=f1 6 _ rfl;clear f1;go_simp;exact o.out _ X rfl J (A (by omega) X (Below.refl _ _))
       .go_simp;exact o.out _ X rfl J (A (by omega) X (Below.refl _ _))
       .have d2:=E ⟨2,.data⟩ (by simp) (by rfl);rw[show x 2=.pointer (some ⟨q,2,none⟩)from d2]at o |-;obtain⟨f1,_⟩:=HG.o X hJ.1;obtain⟨c4,_⟩:=f1 2 _ rfl;clear f1;go_simp;exact o.out _ X rfl J (A (by omega) X (Below.refl _ _))
       .go_simp;exact o.out _ X rfl J (A (by omega) X (Below.refl _ _))
       .have d4:=E ⟨4,.data⟩ (by simp) (by rfl);rw[show x 4=.pointer (some ⟨q,4,none⟩)from d4]at o |-;obtain⟨f1,_⟩:=HG.o X hJ.1;obtain⟨c4,_⟩:=f1 4 _ rfl;clear f1;go_simp;exact o.out _ X rfl J (A (by omega) X (Below.refl _ _))
       .have d5:=E ⟨5,.data⟩ (by simp) (by rfl);rw[show x 5=.slice (some ⟨g,0,none⟩) zs.length tc from d5]at o |-;go_simp;exact o.out _ X rfl J (A (by omega) X (Below.refl _ _))
       .have d6:=E ⟨6,.data⟩ (by simp) (by rfl);rw[show x 6=.pointer (some ⟨g,0,none⟩)from d6]at o |-;go_simp;exact o.out _ X rfl J (A (by omega) X (Below.refl _ _))
       .have d:=E ⟨7,.data⟩ (by simp) (by rfl);rw[show x 7=.pointer (some ⟨g,0,none⟩)from d]at o |-;obtain⟨_,_,s,hs,c0⟩:=HG.o X hJ.1;go_simp;exact o.out _ X ⟨s,rfl,hs⟩ J (A (by omega) X (Below.refl _ _))
       .go_simp;exact o.out _ X rfl J (A (by omega) X (Below.refl _ _))
       .have d9:=E ⟨9,.data⟩ (by simp) (by rfl);rw[show x 9=.pointer (some ⟨q,1,none⟩)from d9]at o |-;obtain⟨f1,_⟩:=HG.o X hJ.1;obtain⟨c4,_⟩:=f1 1 _ rfl;clear f1;go_simp;exact o.out _ X rfl J (A (by omega) X (Below.refl _ _))
       .have d:=E ⟨10,.data⟩ (by simp) (by rfl);rw[show x 10=.int .i64 now from d]at o |-;go_simp;exact o.out _ X ⟨_,rfl⟩ J (A (by omega) X (Below.refl _ _))
       .have d:=E ⟨3,.data⟩ (by simp) (by rfl);obtain⟨s,G,hs⟩:=E ⟨8,.data⟩ (by simp) (by rfl);obtain⟨y,e2⟩:=E ⟨11,.data⟩ (by simp) (by rfl);rw[show x 3=.int .i64 gv from d,G,e2]at o |-;go_simp;exact o.out _ X ⟨s,y,rfl,hs⟩ J (A (by omega) X (Below.refl _ _))
       .obtain⟨s,y,G,hs⟩:=E ⟨12,.data⟩ (by simp) (by rfl);rw[G]at o |-;have hA:Below X.heap.size X (X.alloc (.cells #[.int .i64 gv,.string s,.int .i64 y] 61)):=Zy;have yC:X.heap.size∉(Value.slice T C.length zC).ownBlock.toList:=fun zE=>by have:=zK _ zE;omega
        clear G;go_simp;exact o.out _ _ ⟨X.heap.size,s,y,rfl,yC,Aa.new X _ _,hs⟩ ⟨Tn.of hA,fun _=>hA⟩ (A (by omega) _ hA)
       .have d:=E ⟨1,.data⟩ (by simp) (by rfl);obtain⟨a',s,y,G,H,h2,hs⟩:=E ⟨13,.data⟩ (by simp) (by rfl);rw[show x 1=.slice T C.length zC from d,G]at o |-;have hS:=D.o.N.below (hJ.2 hL);obtain⟨g',c',X',xB,yY,yW,yV⟩:=WQ X (w.heap.size+1) _ C ⟨gv,s,y⟩ hS.l.o a' h2 (by omega) (by omega) 25;have zN:Tn (Value.slice T C.length zC).ownBlock.toList X X':=Sk yW
        have yZ:(Value.slice (some ⟨g',0,none⟩) (C.length+1) c').ownBlock≠some q:=fun e=>by
         rcases yV with h|h
         .exact hS.l.q (h.trans (by simpa [Value.ownBlock]using e))
         .simp[Value.ownBlock]at e;omega
        have yQ:=hS.aq zN ⟨yY,yZ⟩ (fun p hp=>by rcases List.mem_append.1 hp with h|h;exact .inl h;rw[List.mem_singleton.1 h];exact .inr hs) (by rw[List.length_append];simp;omega);refine CA (.tmp 78) (.tmp 90) 25 rfl rfl rfl xB ?_;exact o.out _ X' ⟨g',c',⟨gv,s,y⟩,rfl,yQ⟩ ⟨zN,fun h=>absurd rfl h⟩ ⟨hJ.1.trans zN,fun h=>by unfold Bn at h;simp at h⟩
       .go_simp;exact o.out _ X rfl J (A (by omega) X (Below.refl _ _))
      .intro L x X hL hJ B K o;simp only[Bb,Act.put,Zq,Zp,Zo];obtain⟨g',c',y,G,hS⟩:=B 14 (by decide) (fun j=>by simp);have d:=B 15 (by decide) (fun j=>by simp);obtain⟨hB,hZ,_⟩:=HG.o X hJ.1
       have HN:Hid (Kl w (X.setCell ⟨q,6,none⟩ (.slice (some ⟨g',0,none⟩) (C.length+1) c')) b a n c p 40001 q wd now gv births (.slice (some ⟨g,0,none⟩) zs.length tc) (.slice pa zF.length pc) (.slice (some ⟨g',0,none⟩) (C.length+1) c') zs zF (C++[y])):=LS D.o hJ.1 zT hB hZ hS yB 6 rfl;obtain⟨y5,f5⟩:=hB 6 _ rfl;have vK:=hB.lt;rw[G,show x 15=.pointer (some ⟨q,6,none⟩)from d]
       clear B hS hB hZ HG D hJ;go_simp;refine o.out _ _ ?_;clear o K;have vG:Oh q (X.setCell ⟨q,6,none⟩ (.slice (some ⟨g',0,none⟩) (C.length+1) c'))<200 -C.length:=by unfold Oh;rw[(HN.o.box 6 _ rfl).1];simp only;omega
       generalize X.setCell ⟨q,6,none⟩ (.slice (some ⟨g',0,none⟩) (C.length+1) c')=Y at *
       go_wp2;exact⟨⟨gv,_,C++[y],(by simp;omega:(C++[y]).length<=200),HN.o⟩,by rw[xW.o];exact vG⟩
     .have zV:¬(C.length:Int)<200:=by omega
      have HE:Hid (Sj w wr b a n c p 40001 q):=⟨_,_,_,_,_,_,_,_,_,_,D.o⟩;clear D;go_wp2;go_meet;exact HE
  case rest=>
   clear HA F zI zO;revert wc;intro Y HE;obtain⟨yM,zM,O,zB,T',P',L',xG,yK,yJ,I⟩:=HE.o;have hS:=I.N;have hB:=I.box;obtain⟨yL,vQ,B⟩:=Ax hS.t.o;obtain⟨R,vP,hP⟩:=Ax hS.p.o;obtain⟨T,vO,hL⟩:=Ax hS.l.o;subst B hP hL;have HS:Hid _:=hS;have D:Hid _:=I;obtain⟨x0,x1,x2,x3,x4,x5,x6⟩:=Aa.c7 hB 0 1 2 3 4 5 6;obtain⟨⟨y0,f0⟩,⟨y1,f1⟩,⟨y2,f2⟩,⟨y3,f3⟩,⟨y4,f4⟩,⟨y5,f5⟩,y6,f6⟩:=Jb I.z;clear hS hB I;go_wp2
   refine bodyPost_ret (v:=.agg #[.int .i64 yM,.int .i64 zM,.int .i64 O,.int .i64 zB,.slice yL xG.length vQ,.slice R yK.length vP,.slice T yJ.length vO]) (by simp[results,results15,go_sem,y0,y1,y2,y3,y4,y5,y6]) rfl (HS.o.fin (r:=w.heap.size) (by obtain⟨p',H,h2,h3⟩:=D.o.rd;exact⟨p',H,h2,by omega⟩) D.o.gr yB ?_ (by omega) (by omega))
   repeat refine Tn.trans ?_ (Tn.set _ _ _ _ (by simp))
   exact Tn.of (Below.refl _ _)
end Go.Proofs.YtmjlkgpekcnacaaGreat
