import Derived.Test.YtcfjcdpkpiidkaaGreatX31
import Derived.Test.YtcfjcdpkpiidkaaGreatX24
set_option maxRecDepth 100000
set_option maxHeartbeats 16000000
namespace Go.Proofs.YtcfjcdpkpiidkaaGreat
open ChangeShapes WideShapes ChangeAt RowKit _root_.Go.Proofs.Tryz
structure JS (w X:Zh) (b:Nat) (a:Zk) (n c:Nat) (p K:Int) (q:Nat) (wd now given births:Int) (T P L:Value) (zs:List (Kd×Value)) (ps:List Pd) (ls:List Ld):Prop where
 box:Aa X q [Zg wd,Zg now,Zg given,Zg births,T,P,L]
 R:BN X (w.heap.size+1) q T P L zs ps ls
 z:Aa X w.heap.size z7
 rd:∃p',AA X b a n c p'/\p<=p'/\p'<=p+K
 gr:w.grownBy X (some b)
 q:w.heap.size<q
def SQ(w X:Zh)(b:Nat)(a:Zk)(n c:Nat)(p K:Int)(q:Nat):Prop:=∃wd now given births T P L zs ps ls,JS w X b a n c p K q wd now given births T P L zs ps ls
theorem SR{w a:Zh}{o:Option Nat}(h:w.grownBy a o):Tn o.toList w a:=⟨h.os,h.tape,h.output,h.size,fun b c d=>h.block b c (fun e=>d (by rw[<-e];simp))⟩
theorem LI{w X Y:Zh}{b:Nat}{a:Zk}{n c:Nat}{p K:Int}{q:Nat}{R now k f:Int}{T P L y u t v:Value}{S s:List (Kd×Value)}{Q o:List Pd}{N m:List Ld}{V:List Nat}(h:JS w X b a n c p K q R now k f T P L S Q N)(D:Tn V X Y)(z:∀x∈V,w.heap.size+1<=x){r i e d:Int}{B:Zj}(H:Aa Y q B)(C:Aa Y w.heap.size z7)(I:BN Y (w.heap.size+1) q y u t s o m)(U:b<w.heap.size)(j:Nat)(J:B.set j v=[Zg r,Zg i,Zg e,Zg d,y,u,t]):JS w (Y.setCell (Zd q j) v) b a n c p K q r i e d y u t s o m:=by
 have M:=h.q;have l:=AS Y q j v;obtain⟨O,F,G⟩:=h.rd;refine⟨by rw[<-J];exact H.set j v,I.J l Yu,Aa.same C (l.block _ C.lt Yt),⟨O,(F.J D (fun g A=>by have:=z g A;omega) (fun E=>by have:=z b E;omega)).J l Yt Yt,G⟩,CK (CK h.gr D (fun g A=> .inl (by have:=z g A;omega))) l Yt,M⟩
def OB(q:Nat)(w:Zh):Nat:=match w.cell? (Zd q 6)with
 |some (.slice _ m _)=>200 -m
 |_=>0
theorem WK(w:Zh)(g:Nat)(x y:Int)(h:Aa w g [.int .u8 x,.int .u8 y]):∃s,(convert 22 9 (Yz g 2 2)).run prog w=.ok (.string s) w/\s.size=2:=
 ⟨_,run_convert_bytes_arg (P:=prog) w 22 5 underlying22 underlying5 g 0 2 2 [x,y] rfl (fun i a=>by
  rcases(show i=0\/i=1 by omega)with rfl|rfl
  .simpa using (h 0 _ rfl).1
  .simpa using (h 1 _ rfl).1) 9 underlying9,DX [x,y]⟩
theorem VB(b:Nat)(a:Zk)(n c:Nat)(p:Int)(w:Zh)(h:AA w b a n c p)(hp:0<=p)(vT:p<=600000):
 Calls prog 12 #[.pointer (some ⟨b,0,none⟩)] w (SA w b a n c p 50000):=by
 have yA:=h.lt;obtain⟨W,hW⟩:=Af (w.alloc (.cells Yi 27));obtain⟨bW,zW,c7⟩:=AL (l:=z7) hW;have HR:Hid _:=Pe b a n c p W (h.below bW) hp (by omega);have H0:Hid (Aa W w.heap.size z7/\w.grownBy W (some b)/\W.heap.size=w.heap.size+1):=⟨c7,Ak _ bW,zW⟩;have HW:Hid _:=hW;clear hW bW zW c7 h;go_enter func12,ntmps12;go_upto_region 1 with fail;rw[<-HW.o];clear HW;go_wp2_with fail
 refine HR.Am ?_;clear HR;rintro e w1 ⟨vs,rfl,hv,CF⟩;obtain⟨u,f,rs,hf,rfl,O,yE⟩:=hv.off;have zG:∀g∈BS (.slice f.U u.ks.length f.W) (.slice f.N u.ps.length f.T) (.slice f.K u.ls.length f.Q) rs,w.heap.size+1<=g/\g≠w1.heap.size:=fun g hg=>by have E:=yE g hg;have h2:=O.co g hg;have h3:=H0.o.2.2;omega
 obtain⟨X0,yG⟩:=Af (w1.alloc (.cells (Yg u.P u.E u.G u.C f.U u.ks.length f.W f.N u.ps.length f.T f.K u.ls.length f.Q) 27));have bX:=(AL (l:=(Yh u.P u.E u.G u.C f.U u.ks.length f.W f.N u.ps.length f.T f.K u.ls.length f.Q)) yG).1;have cX:=(AL (l:=(Yh u.P u.E u.G u.C f.U u.ks.length f.W f.N u.ps.length f.T f.K u.ls.length f.Q)) yG).2.2
 have xR:(u.ks.zip rs).length=u.ks.length:=by rw[List.length_zip,O.len,Nat.min_self]
 have xD:w.heap.size<w1.heap.size:=by have E:=CF.gr.size;have h2:=H0.o.2.2;omega
 have yN:Hid (JS w X0 b a n c p 40000 w1.heap.size u.P u.E u.G u.C (.slice f.U u.ks.length f.W) (.slice f.N u.ps.length f.T) (.slice f.K u.ls.length f.Q) (u.ks.zip rs) u.ps u.ls):=
  ⟨cX,(O.ik zG (hf.R.w hf.sm)).below bX,Aa.below (v:=Ze) (H0.o.1.au CF.gr (by omega)) bX,by obtain⟨p',E,h2⟩:=CF.R;exact⟨p',E.below bX,h2⟩,Ap (Ap H0.o.2.1 CF.gr) (Ak _ bX),xD⟩
 have xI:Hid (∀X,X0.grownBy X (some b)->Bb X 0 (.slice f.U u.ks.length f.W) (.slice f.N u.ps.length f.T) (.slice f.K u.ls.length f.Q) rs u.ks u.ps u.ls):=fun X hX=>(O.below bX).apart (Tn.grown (V:=[b]) hX (by simp)) (fun g hg zC=>by simp at hg;have:=(zG g zC).1;omega);have HF:Hid (Gm u.ks u.ps u.ls/\∀k∈u.ks,Hj k):=⟨hf.R,hf.sm⟩;have xK:Hid _:=yG
 have xW:Hid (u.ks.length=(u.ks.zip rs).length):=xR.symm;clear yG bX cX O yE zG hv hf CF H0 xR
 have xQ:∀S U Q M,(Bn u S U (.slice f.U u.ks.length f.W) (.slice f.N u.ps.length f.T) (.slice f.K u.ls.length f.Q) Q M).toArray= #[Zg u.wd,Zg u.lim,S,U,Zg u.P,Zg u.E,Zg u.G,Zg u.C,.slice f.U u.ks.length f.W,.slice f.N u.ps.length f.T,.slice f.K u.ls.length f.Q,Zg u.H,Q,M,Zg u.O,Zg u.M,Zg u.ro]:=fun _ _ _ _=>rfl;rw[xQ];clear xQ
 have xY:∀X:Zh,(Instr.field 69 (.agg (Xq u f)) 3).run prog X=.ok (.agg (Yg u.P u.E u.G u.C f.U u.ks.length f.W f.N u.ps.length f.T f.K u.ls.length f.Q)) X:=fun _=>by kernel_rfl
 go_upto_region 2 with fail;rw[<-xK.o];clear xK xY;generalize w1.heap.size=q at *
 obtain⟨p1,xN,vS,vN⟩:=yN.o.rd;go_wp2_with fail;refine(AR b a n c p1 20 X0 xN (by omega) (by omega) (by omega) (by omega)).mono ?_;rintro e X1 ⟨k,rfl,k0,k1,yZ,zR⟩;have zO:Hid _:=xI.o X1 zR;have C:Hid (JS w X1 b a n c p 40001 q u.P u.E u.G u.C (.slice f.U u.ks.length f.W) (.slice f.N u.ps.length f.T) (.slice f.K u.ls.length f.Q) (u.ks.zip rs) u.ps u.ls):=by have h:=yN.o;have hq:=h.q;exact⟨h.box.au zR (by omega),h.R.J (Tn.grown (V:=[b]) zR (by simp)) (by simp;omega),h.z.au zR (by omega),⟨p1+1,yZ,by omega,by omega⟩,Ap h.gr zR,hq⟩
 have zH:Hid (AA X1 b a n c (p1+1)):=yZ;clear xN yZ zR yN xI;have vU:=C.o.q;have vW:=C.o.gr.size;obtain⟨x0,x1,x2,x3,x4,x5,x6⟩:=Aa.c7 C.o.box 0 1 2 3 4 5 6;by_cases hk3:k<3
 .
  clear x0 x1 x2 x3 x4 x5 x6;obtain⟨x0,x1,x2,x3,x4,x5,x6⟩:=Aa.c7 C.o.box 0 1 2 3 4 5 6;have xJ:Hid _:=SB b a n c (p1+1) u.P u.E u.G u.C f.U f.N f.K f.W f.T f.Q u.ks u.ps u.ls X1 zH.o (by omega) (by omega) zO.o.get zO.o.jk (Dy zO.o.pins) (Dy zO.o.aq) HF.o.1 HF.o.2;clear zO HF;go_wp2_with fail;refine xJ.Am ?_;clear xJ;rintro e X2 ⟨⟨cs,rfl,yR⟩,CF⟩;have vX:=CF.gr.size
  obtain⟨yL,zK,H,T,yK,xT,N,zA,R,zB,xS,yJ,yI,e7,_,_⟩:=(yR [] X2 (by simp) (Tn.of Ad)).ex;subst e7;have HE:Hid (∀Y,Tn [w.heap.size] X2 Y->SA w b a n c p 50000 (.returned (.agg (Yg yL zK H T yK xS.length xT N yJ.length zA R yI.length zB))) Y):=fun Y hY=>by
   refine⟨⟨_,rfl,fun V Z hV hT=>yR (w.heap.size::V) Z (fun g hg=> ?_) ((hY.mono (by simp)).trans (hT.mono (by simp;intro g hg;exact .inr hg)))⟩,?_,CK (Ap C.o.gr CF.gr) hY (by simp)⟩
   .rcases List.mem_cons.1 hg with h|h
    .have:=C.o.z.lt;omega
    .have:=hV g h;omega
   .obtain⟨p',E,h2,h3⟩:=CF.R;exact⟨p',E.J hY (by simp;omega) (by simp;omega),by omega,by omega⟩
  obtain⟨⟨y0,f0⟩,⟨y1,f1⟩,⟨y2,f2⟩,⟨y3,f3⟩,⟨y4,f4⟩,⟨y5,f5⟩,y6,f6⟩:=Gj (C.o.z.au CF.gr (by omega));clear yR CF C zH x0 x1 x2 x3 x4 x5 x6;go_wp2;refine bodyPost_ret (v:=.agg (Yg yL zK H T yK xS.length xT N yJ.length zA R yI.length zB)) (by simp[results,results12,go_sem,y0,y1,y2,y3,y4,y5,y6]) rfl (HE.o _ ?_)
  repeat refine Tn.trans ?_ (Tn.set _ _ _ _ (by simp))
  exact Tn.of Ad
 clear zO;by_cases hk3':k=3
 .subst hk3';clear hk3 x0 x1 x2 x3 x4 x5 x6;go_wp2_with fail;refine(AR b a n c (p1+1) 30 X1 zH.o (by omega) (by omega) (by omega) (by omega)).mono ?_;rintro e X3 ⟨x,rfl,x0,x1,xO,yS⟩;go_wp2_with fail;refine(AR b a n c (p1+1+1) 2 X3 xO (by omega) (by omega) (by omega) (by omega)).mono ?_;rintro e X4 ⟨y,rfl,y0,y1,xP,yT⟩;obtain⟨j,rfl⟩:∃j:Nat,x=j:=⟨x.toNat,by omega⟩
  have HM:Hid _:=Oe (20+j) (y==0) X4 (by omega);have xL:((20+j:Nat):Int)=20+(j:Int):=by omega
  rw[xL]at HM;have zP:Hid (Aa X4 w.heap.size z7/\w.grownBy X4 (some b)/\AA X4 b a n c (p1+1+1+1)):=⟨(C.o.z.au yS (by omega)).au yT (by omega),Ap C.o.gr (Ap yS yT),xP⟩;clear xO xP yS yT C xL zH;go_wp2_with fail;refine HM.Am ?_;clear HM;rintro e X5 hM;obtain⟨ta,tm,xF,rfl,O,yH⟩:=hM.ik (q:=0) (by omega) (by omega);have vV:=zP.o.2.1.size;have vY:=zP.o.1.lt;have HS:Hid _:=O
  have HR:Hid ((∃p',AA X5 b a n c p'/\p<=p'/\p'<=p+50000)/\w.grownBy X5 (some b)):=⟨⟨_,zP.o.2.2.below yH,by omega,by omega⟩,Ap zP.o.2.1 (Ak _ yH)⟩;obtain⟨⟨y0,f0⟩,⟨y1,f1⟩,⟨y2,f2⟩,⟨y3,f3⟩,⟨y4,f4⟩,⟨y5,f5⟩,y6,f6⟩:=Gj (Aa.below (v:=Ze) zP.o.1 yH);clear O yH hM zP;go_wp2
  refine bodyPost_ret (v:=.agg #[Zg 8,Ze,Ze,Zg ((20+j:Nat):Int),.slice ta xF.length tm,Zb,Zb]) (by simp[results,results12,go_sem,y0,y1,y2,y3,y4,y5,y6]) rfl (HS.o.fin (r:=w.heap.size) HR.o.1 HR.o.2 yA ?_ (by omega) (by omega))
  repeat refine Tn.trans ?_ (Tn.set _ _ _ _ (by simp))
  exact Tn.of Ad
 have vQ:4<=k:=by omega
 clear hk3 hk3';rw[xW.o]at C x4;have zY:Hid (u.ps.length<=100/\u.ls.length<=200):=HF.o.1.n.2;clear HF;generalize u.ks.zip rs=zs at *
 obtain⟨zE,zV⟩:=Af u.ps;obtain⟨zF,zT⟩:=Af u.ls;rw[<-zV,<-zT]at C zY;rw[<-zV]at x5;rw[<-zT]at x6;clear zV zT;generalize u.P=wd at *
 generalize u.E=now at *
 generalize u.G=given at *
 generalize u.C=births at *
 generalize f.U=ta at *
 generalize f.W=tc at *
 generalize f.N=pa at *
 generalize f.T=pc at *
 generalize f.K=la at *
 generalize f.Q=lc at *
 have D:¬k<3:=by omega
 have e2:(k==3)=false:=by simp;omega
 go_upto_region 7 with fail;go_cut [32] (fun v wx=>∃cc:Bool,v=.bool cc/\(cc=true->k=4/\0<zs.length)/\wx=X1)
 case first=>
  by_cases h4:k=4
  .subst h4;go_wp2;go_meet;exact⟨_,rfl,fun h=>⟨by first|trivial|rfl,by simpa using h⟩,rfl⟩
  .have vO:(k==4)=false:=by simpa using h4
   clear h4;go_wp2;go_meet;exact⟨_,rfl,(fun h=>by cases h),rfl⟩
 case rest=>
 revert wc;rintro X1 ⟨cc,rfl,zN,rfl⟩;clear x0 x1 x2 x3 x4 x5 x6
 go_upto_if 32 with fail
 go_cut [5,32] (fun _ _ wx=>Hid ((k=4->SQ w wx b a n c p 40001 q)/\(k≠4->wx=X1)))
 case first=>
  cases cc with
  |false=>go_wp2;go_meet;exact⟨fun _=>⟨_,_,_,_,_,_,_,_,_,_,C.o⟩,fun _=>rfl⟩
  |true=>
   obtain⟨xG,xE⟩:=zN rfl;subst xG;obtain⟨g,xB⟩:∃g,ta=some ⟨g,0,none⟩:=by
    rcases Jl C.o.R.t.o with⟨_,h⟩|⟨g,cap,h,_⟩
    .omega
    .injection h with E h2 h3;exact⟨g,E⟩
   subst xB;have yO:Hid (zE.length<=100):=zY.o.1;clear zY zN;go_wp2
   go_loopw [5] (fun i wr=>∃m:Nat,i=Zg (m:Int)/\∃P G,Hid (G.length=zE.length+m/\G.length<=100)/\JS w wr b a n c p 40001 q wd now given births (.slice (some ⟨g,0,none⟩) zs.length tc) P (.slice la zF.length lc) zs G zF) (fun i _=>101 -(intOf i).toNat)
   case atStart=>exact⟨0,rfl,_,zE,⟨by omega,yO.o⟩,C.o⟩
   case round=>
    clear C zH;obtain⟨m,rfl,P,G,zZ,F⟩:=hrel;have xU:m<=100:=by have:=zZ.o;omega
    have yM:G.length<=100:=zZ.o.2;obtain⟨N,zA,hP⟩:=As F.R.p.o;subst hP;have A:Hid _:=F;clear F;obtain⟨x5,_⟩:=A.o.box 5 _ rfl;by_cases hlt:G.length<100
    .have zU:(G.length:Int)<100:=by omega
     have zJ:∀x∈(Value.slice N G.length zA).ownBlock.toList,x<wr.heap.size:=fun x hx=>(Ac A.o.R.p.o (g:=x) (by simpa using hx)).2;have zS:∀x∈(Value.slice N G.length zA).ownBlock.toList,w.heap.size+1<=x:=fun x hx=>(Ac A.o.R.p.o (g:=x) (by simpa using hx)).1;have vH:=A.o.gr.size;have vJ:=A.o.z.lt;have zX:=A.o.box.lt
     have HG:Hid (∀X,Tn (Value.slice N G.length zA).ownBlock.toList wr X->Aa X q (Yh wd now given births (some ⟨g,0,none⟩) zs.length tc N G.length zA la zF.length lc)/\Aa X w.heap.size z7/\∃s:Zi,s.size<=maxLen/\X.cell? (Zd g 0)=some (.string s)):=fun X hX=>by
      have F:=A.o;have yC:∀x,x<w.heap.size+1\/x=q->x∉(Value.slice N G.length zA).ownBlock.toList:=fun x hx zC=>by
       have E:=Ac F.R.p.o (g:=x) (by simpa using zC);rcases hx with hx|hx
       .omega
       .exact F.R.p.q (by rw[<-hx];simpa using zC)
      refine⟨Aa.same F.box (hX.block _ F.box.lt (yC _ (.inr rfl))),Aa.same F.z (hX.block _ F.z.lt (yC _ (.inl (by omega)))),?_⟩;have ho:=(F.R.t.other F.R.p (by decide) hX).o;have E:=ho.cellAt 0 (by omega);obtain⟨z,zr,yD⟩:∃z zr,zs=z::zr:=by
       match zs,xE with
       |z::zr,_=>exact⟨z,zr,rfl⟩
      refine⟨z.1.sum,(F.R.w.k z.1 (by rw[yD];simp)).s,E.trans ?_⟩;rw[yD];rfl
     go_upto_region 11 with fail;clear x5;refine BL [39,40,41,42,43,44,45,46,47,48,49,50,51,52,53,54,55,56,57,58,59,60] 22 rfl _ rfl (by kernel_rfl) (by kernel_rfl) (by kernel_rfl) (by kernel_rfl) (by kernel_rfl) (by decide) (by kernel_rfl) [] (by kernel_rfl) (fun L X=>Tn (Value.slice N G.length zA).ownBlock.toList wr X/\(L 20=false->Zz wr X)) (fun i X v=>match i with
      |0=>v=.pointer (some ⟨q,5,none⟩)
      |1=>v=.slice N G.length zA
      |2=>v=Zg m
      |3=>∃y:Int,v=Zg y/\0<=y/\y<=10
      |4=>∃y:Int,v=Zg y
      |5=>∃y:Int,v=.int .u8 y
      |6=>v=Zg m
      |7=>∃y:Int,v=Zg y/\0<=y/\y<=10
      |8=>∃y:Int,v=Zg y
      |9=>∃y:Int,v=.int .u8 y
      |10=>∃a' y z,v=.slice (some ⟨a',0,none⟩) 2 2/\a'∉(Value.slice N G.length zA).ownBlock.toList/\Aa X a' [.int .u8 y,.int .u8 z]
      |11=>∃s:Zi,v=.string s/\s.size=2
      |12=>∃s:Zi,v=.string s/\s.size<=3
      |13=>v=.pointer (some ⟨q,4,none⟩)
      |14=>v=.slice (some ⟨g,0,none⟩) zs.length tc
      |15=>v=.pointer (some ⟨g,0,none⟩)
      |16=>v=.pointer (some ⟨g,0,none⟩)
      |17=>∃s:Zi,v=.string s/\s.size<=maxLen
      |18=>∃s u:Zi,v=.agg #[.string s,.string u]/\s.size<=3/\u.size<=maxLen
      |19=>∃a' s u,v=.slice (some ⟨a',0,none⟩) 1 1/\a'∉(Value.slice N G.length zA).ownBlock.toList/\Aa X a' [.string s,.string u]/\s.size<=3/\u.size<=maxLen
      |20=>∃g' c' y,v=.slice (some ⟨g',0,none⟩) (G.length+1) c'/\BN X (w.heap.size+1) q (.slice (some ⟨g,0,none⟩) zs.length tc) (.slice (some ⟨g',0,none⟩) (G.length+1) c') (.slice la zF.length lc) zs (G++[y]) zF
      |21=>v=.pointer (some ⟨q,5,none⟩)
      |_=>True) (fun j X Y=>Tn (Value.slice N G.length zA).ownBlock.toList X Y/\(j≠20->Zz X Y)) ?_ ⟨Tn.of Ad.drew,fun _=>Ad.drew⟩ ?_ ?_
     .intro j i X Y v yW vD xX hE hT;rcases i with _|_|_|_|_|_|_|_|_|_|_|_|_|_|_|_|_|_|_|_|_|_|_<;>first|exact hT|exact trivial|skip
      .obtain⟨a',y,z,e,E,h2⟩:=hT;exact⟨a',y,z,e,E,Aa.same h2 (hE.1.block _ h2.lt E)⟩
      .obtain⟨a',s,t,e,E,h2,h3⟩:=hT;exact⟨a',s,t,e,E,Aa.same h2 (hE.1.block _ h2.lt E),h3⟩
      .obtain⟨g',c',y,e,E⟩:=hT;exact⟨g',c',y,e,E.below (hE.2 (fun e=>yW e))⟩
     .intro i o' L x X hi ho hL hD hJ J K o;obtain⟨b0,b1,b2,b3,b4,b5,b6⟩:=Aa.c7 (HG.o X hJ.1).1 0 1 2 3 4 5 6;have hr:Tn (Value.slice N G.length zA).ownBlock.toList X X/\(i≠20->Zz X X):=⟨Tn.of Ad,fun _=>Below.refl _ _⟩;have yQ:=hJ.1.size
      have I:i≠20->∀Y,Zz X Y->Tn (Value.slice N G.length zA).ownBlock.toList wr Y/\(Bp L i 20=false->Zz wr Y):=fun h7 Y hY=>⟨hJ.1.trans (Tn.of hY),fun h9=>(hJ.2 (by unfold Bp at h9;rw[if_neg (Ne.symm h7)]at h9;exact h9)).trans (hY.mono yQ)⟩
      rcases(show i=0\/i=1\/i=2\/i=3\/i=4\/i=5\/i=6\/i=7\/i=8\/i=9\/i=10\/i=11\/i=12\/i=13\/i=14\/i=15\/i=16\/i=17\/i=18\/i=19\/i=20\/i=21 by omega)with rfl|rfl|rfl|rfl|rfl|rfl|rfl|rfl|rfl|rfl|rfl|rfl|rfl|rfl|rfl|rfl|rfl|rfl|rfl|rfl|rfl|rfl<;>cases ho<;>simp only[Bc,Act.put,Zq,Zp,Zo]at o |-
      all_goals try (go_simp;exact o.out _ X rfl hr (I (by omega) X Ad))
      all_goals try (simp[EB,Region.binds]at J;simp only[J]at o |-;go_simp;exact o.out _ X rfl hr (I (by omega) X Ad))
      .have d:=J ⟨2,.data⟩ (by simp) (by rfl);rw[show x 2=Zg m from d]at o |-;have vE:(m:Int).tdiv 10=(m:Int)/10:=Int.tdiv_eq_ediv_of_nonneg (by omega);have vF:(m:Int).tmod 10=(m:Int)%10:=Int.tmod_eq_emod_of_nonneg (by omega);have xC:IntKind.i64.wrap ((m:Int)/10)=(m:Int)/10:=Bs (by omega) (by omega);have xD:IntKind.i64.wrap ((m:Int)%10)=(m:Int)%10:=Bs (by omega) (by omega);go_simp
       exact o.out _ X ⟨_,rfl,by omega,by omega⟩ hr (I (by omega) X Ad)
      .obtain⟨y,D,y0,y1⟩:=J ⟨3,.data⟩ (by simp) (by rfl);rw[D]at o |-;have xC:IntKind.i64.wrap (48+y)=48+y:=Bs (by omega) (by omega);go_simp;exact o.out _ X ⟨_,rfl⟩ hr (I (by omega) X Ad)
      .obtain⟨y,D⟩:=J ⟨4,.data⟩ (by simp) (by rfl);rw[D]at o |-;go_simp;exact o.out _ X ⟨_,rfl⟩ hr (I (by omega) X Ad)
      .have d:=J ⟨6,.data⟩ (by simp) (by rfl);rw[show x 6=Zg m from d]at o |-;have vE:(m:Int).tdiv 10=(m:Int)/10:=Int.tdiv_eq_ediv_of_nonneg (by omega);have vF:(m:Int).tmod 10=(m:Int)%10:=Int.tmod_eq_emod_of_nonneg (by omega);have xC:IntKind.i64.wrap ((m:Int)/10)=(m:Int)/10:=Bs (by omega) (by omega);have xD:IntKind.i64.wrap ((m:Int)%10)=(m:Int)%10:=Bs (by omega) (by omega);go_simp
       exact o.out _ X ⟨_,rfl,by omega,by omega⟩ hr (I (by omega) X Ad)
      .obtain⟨y,D,y0,y1⟩:=J ⟨7,.data⟩ (by simp) (by rfl);rw[D]at o |-;have xC:IntKind.i64.wrap (48+y)=48+y:=Bs (by omega) (by omega);go_simp;exact o.out _ X ⟨_,rfl⟩ hr (I (by omega) X Ad)
      .obtain⟨y,D⟩:=J ⟨8,.data⟩ (by simp) (by rfl);rw[D]at o |-;go_simp;exact o.out _ X ⟨_,rfl⟩ hr (I (by omega) X Ad)
      .obtain⟨y,D⟩:=J ⟨5,.data⟩ (by simp) (by rfl);obtain⟨z,e2⟩:=J ⟨9,.data⟩ (by simp) (by rfl);rw[D,e2]at o |-;have hA:Below X.heap.size X (X.alloc (.cells #[.int .u8 y,.int .u8 z] 5)):=Zy;have yB:X.heap.size∉(Value.slice N G.length zA).ownBlock.toList:=fun zC=>by have:=zJ _ zC;omega
       clear D e2;go_simp;exact o.out _ _ ⟨X.heap.size,y,z,rfl,yB,Aa.new X _ _⟩ ⟨Tn.of hA,fun _=>hA⟩ (I (by omega) _ hA)
      .obtain⟨a',y,z,D,E,h2⟩:=J ⟨10,.data⟩ (by simp) (by rfl);obtain⟨s,hs,vI⟩:=WK X a' y z h2;rw[D]at o |-;clear h2 D;go_simp;exact o.out _ X ⟨s,rfl,vI⟩ hr (I (by omega) X Ad)
      .obtain⟨s,D,E⟩:=J ⟨11,.data⟩ (by simp) (by rfl);rw[D]at o |-;have hl:¬9223372036854775807<1+s.size:=by omega
       have vA:(⟨#[122]⟩:Zi).size=1:=rfl;go_simp;exact o.out _ X ⟨_,rfl,by rw[ByteArray.size_append,vA];omega⟩ hr (I (by omega) X Ad)
      .have d:=J ⟨16,.data⟩ (by simp) (by rfl);rw[show x 16=_ from d]at o |-;obtain⟨_,_,s,hs,c0⟩:=HG.o X hJ.1;go_simp;exact o.out _ X ⟨s,rfl,hs⟩ hr (I (by omega) X Ad)
      .obtain⟨s,D,hs⟩:=J ⟨12,.data⟩ (by simp) (by rfl);obtain⟨t,e2,ht⟩:=J ⟨17,.data⟩ (by simp) (by rfl);rw[D,e2]at o |-;go_simp;exact o.out _ X ⟨s,t,rfl,hs,ht⟩ hr (I (by omega) X Ad)
      .obtain⟨s,t,D,hs,ht⟩:=J ⟨18,.data⟩ (by simp) (by rfl);rw[D]at o |-;have hA:Below X.heap.size X (X.alloc (.cells #[.string s,.string t] 48)):=Zy;have yB:X.heap.size∉(Value.slice N G.length zA).ownBlock.toList:=fun zC=>by have:=zJ _ zC;omega
       clear D;go_simp;exact o.out _ _ ⟨X.heap.size,s,t,rfl,yB,Aa.new X _ _,hs,ht⟩ ⟨Tn.of hA,fun _=>hA⟩ (I (by omega) _ hA)
      .have d:=J ⟨1,.data⟩ (by simp) (by rfl);obtain⟨a',s,t,D,E,h2,hs,ht⟩:=J ⟨19,.data⟩ (by simp) (by rfl);rw[show x 1=_ from d,D]at o |-;have O:=A.o.R.below (hJ.2 hL);obtain⟨g',c',X',xA,yX,yV,yU⟩:=TU X (w.heap.size+1) _ G ⟨s,t⟩ O.p.o a' h2 (by omega) (by omega) 24;have zM:Tn (Value.slice N G.length zA).ownBlock.toList X X':=SR yV
       have yY:(Value.slice (some ⟨g',0,none⟩) (G.length+1) c').ownBlock≠some q:=fun e=>by
        rcases yU with h|h
        .exact O.p.q (h.trans (by simpa [Value.ownBlock]using e))
        .simp[Value.ownBlock]at e;omega
       have vR:(10:Nat)<=maxLen:=by unfold maxLen;omega
       have yP:=O.pins zM ⟨yX,yY⟩ (fun p hp=>by rcases List.mem_append.1 hp with h|h;exact .inl h;rw[List.mem_singleton.1 h];exact .inr ⟨by simp only;omega,ht⟩) (by rw[List.length_append];simp;omega);refine Cr (.tmp 40) (.tmp 58) 24 rfl rfl rfl xA ?_;exact o.out _ X' ⟨g',c',⟨s,t⟩,rfl,yP⟩ ⟨zM,fun h=>absurd rfl h⟩ ⟨hJ.1.trans zM,fun h=>by unfold Bp at h;simp at h⟩
     .intro L x X hL hJ hT K o;simp only[Bc,Act.put,Zq,Zp,Zo];obtain⟨g',c',y,D,O⟩:=hT 20 (by decide) (fun j=>by simp);have d:=hT 21 (by decide) (fun j=>by simp);obtain⟨hB,hZ,_⟩:=HG.o X hJ.1
      have HN:Hid (JS w (X.setCell (Zd q 5) (.slice (some ⟨g',0,none⟩) (G.length+1) c')) b a n c p 40001 q wd now given births (.slice (some ⟨g,0,none⟩) zs.length tc) (.slice (some ⟨g',0,none⟩) (G.length+1) c') (.slice la zF.length lc) zs (G++[y]) zF):=LI A.o hJ.1 zS hB hZ O yA 5 rfl;obtain⟨y5,f5⟩:=hB 5 _ rfl;have vG:=hB.lt;rw[D,show x 21=.pointer (some ⟨q,5,none⟩)from d]
      clear hT O hB hZ HG A hJ;go_simp;refine o.out _ _ ?_;clear o K;go_wp2;exact⟨⟨m+1,by go_num,_,G++[y],(by have:=zZ.o;exact⟨by simp;omega,by simp;omega⟩),HN.o⟩,by simp[intOf];omega⟩
    .have zU:¬(G.length:Int)<100:=by omega
     have HE:Hid (SQ w wr b a n c p 40001 q):=⟨_,_,_,_,_,_,_,_,_,_,A.o⟩;clear A;go_wp2;go_meet;exact⟨fun _=>HE.o,fun h=>absurd rfl h⟩
 case rest=>
  revert wc;intro X2 HA;go_upto_region 12 with fail;go_cut [68] (fun v wx=>∃cc:Bool,v=.bool cc/\(cc=true->k=5/\0<zs.length)/\wx=X2)
  case first=>
   by_cases h5:k=5
   .subst h5;obtain rfl:X2=X1:=HA.o.2 (by omega);obtain⟨x4,_⟩:=C.o.box 4 _ rfl;go_wp2;go_meet;exact⟨_,rfl,fun h=>⟨by first|trivial|rfl,by simpa using h⟩,rfl⟩
   .have vP:(k==5)=false:=by simpa using h5
    clear h5;go_wp2;go_meet;exact⟨_,rfl,(fun h=>by cases h),rfl⟩
  case rest=>
  revert wc;rintro X2 ⟨cc,rfl,zN,rfl⟩
  go_upto_if 68 with fail
  go_cut [68] (fun _ wx=>Hid (SQ w wx b a n c p 40001 q))
  case first=>
   cases cc with
   |false=>
    have HE:Hid (SQ w X2 b a n c p 40001 q):=by
     by_cases h4:k=4
     .exact HA.o.1 h4
     .rw[HA.o.2 h4];exact⟨_,_,_,_,_,_,_,_,_,_,C.o⟩
    clear HA C zH zN;go_wp2;go_meet;exact HE
   |true=>
    obtain⟨xZ,xE⟩:=zN rfl;obtain rfl:X2=X1:=HA.o.2 (by omega);subst xZ;obtain⟨g,xB⟩:∃g,ta=some ⟨g,0,none⟩:=by
     rcases Jl C.o.R.t.o with⟨_,h⟩|⟨g,cap,h,_⟩
     .omega
     .injection h with E h2 h3;exact⟨g,E⟩
    subst xB;have yO:Hid (zF.length<=200):=zY.o.2;clear zY zN HA;go_wp2
    go_loopw [73] (fun _ wr=>∃(gv:Int) (L:Value) (B:List Ld),Hid (B.length<=200)/\JS w wr b a n c p 40001 q wd now gv births (.slice (some ⟨g,0,none⟩) zs.length tc) (.slice pa zE.length pc) L zs zE B) (fun _ wr=>OB q wr)
    case atStart=>exact⟨_,_,zF,yO,C.o⟩
    case round=>
     clear C zH;obtain⟨H,L,B,zZ,F⟩:=hrel;obtain⟨R,zB,hL⟩:=As F.R.l.o;subst hL;obtain⟨x6,_⟩:=F.box 6 _ rfl;have xM:OB q wr=200 -B.length:=by unfold OB;rw[x6]
     have xV:Hid _:=xM;have A:Hid _:=F;clear F xM;by_cases hlt:B.length<200
     .have zU:(B.length:Int)<200:=by omega
      have xH:Hid (∀x,JS w (wr.setCell (Zd q 2) (Zg x)) b a n c p 40001 q wd now x births (.slice (some ⟨g,0,none⟩) zs.length tc) (.slice pa zE.length pc) (.slice R B.length zB) zs zE B):=fun x=>LI A.o (V:=[]) (Tn.of Ad) (by simp) A.o.box A.o.z A.o.R yA 2 rfl;obtain⟨x2,f2⟩:=A.o.box 2 _ rfl;have zX:=A.o.box.lt;clear A;go_upto_region 15 with fail;generalize wrap64 (H+1)=gv
      clear x2 f2 x6;have A:Hid _:=xH.o gv;clear xH;clear zX;obtain⟨zI,yF⟩:=Af (wr.setCell (Zd q 2) (Zg gv));rw[<-yF]at A |-;clear yF;have zJ:∀x∈(Value.slice R B.length zB).ownBlock.toList,x<zI.heap.size:=fun x hx=>(Ac A.o.R.l.o (g:=x) (by simpa using hx)).2;have zS:∀x∈(Value.slice R B.length zB).ownBlock.toList,w.heap.size+1<=x:=fun x hx=>(Ac A.o.R.l.o (g:=x) (by simpa using hx)).1
      have vH:=A.o.gr.size;have vJ:=A.o.z.lt;have zX:=A.o.box.lt;have yM:B.length<=200:=zZ.o;have HG:Hid (∀X,Tn (Value.slice R B.length zB).ownBlock.toList zI X->Aa X q (Yh wd now gv births (some ⟨g,0,none⟩) zs.length tc pa zE.length pc R B.length zB)/\Aa X w.heap.size z7/\∃s:Zi,s.size<=maxLen/\X.cell? (Zd g 0)=some (.string s)):=fun X hX=>by
       have F:=A.o;have yC:∀x,x<w.heap.size+1\/x=q->x∉(Value.slice R B.length zB).ownBlock.toList:=fun x hx zC=>by
        have E:=Ac F.R.l.o (g:=x) (by simpa using zC);rcases hx with hx|hx
        .omega
        .exact F.R.l.q (by rw[<-hx];simpa using zC)
       refine⟨Aa.same F.box (hX.block _ F.box.lt (yC _ (.inr rfl))),Aa.same F.z (hX.block _ F.z.lt (yC _ (.inl (by omega)))),?_⟩;have ho:=(F.R.t.other F.R.l (by decide) hX).o;have E:=ho.cellAt 0 (by omega);obtain⟨z,zr,yD⟩:∃z zr,zs=z::zr:=by
        match zs,xE with
        |z::zr,_=>exact⟨z,zr,rfl⟩
       refine⟨z.1.sum,(F.R.w.k z.1 (by rw[yD];simp)).s,E.trans ?_⟩;rw[yD];rfl
      refine BL [77,78,79,80,81,82,83,84,85,86,87,88,89,90,91,92] 16 rfl _ rfl (by kernel_rfl) (by kernel_rfl) (by kernel_rfl) (by kernel_rfl) (by kernel_rfl) (by decide) (by kernel_rfl) [] (by kernel_rfl) (fun L X=>Tn (Value.slice R B.length zB).ownBlock.toList zI X/\(L 14=false->Zz zI X)) (fun i X v=>match i with
       |0=>v=.pointer (some ⟨q,6,none⟩)
       |1=>v=.slice R B.length zB
       |2=>v=.pointer (some ⟨q,2,none⟩)
       |3=>v=Zg gv
       |4=>v=.pointer (some ⟨q,4,none⟩)
       |5=>v=.slice (some ⟨g,0,none⟩) zs.length tc
       |6=>v=.pointer (some ⟨g,0,none⟩)
       |7=>v=.pointer (some ⟨g,0,none⟩)
       |8=>∃s:Zi,v=.string s/\s.size<=maxLen
       |9=>v=.pointer (some ⟨q,1,none⟩)
       |10=>v=Zg now
       |11=>∃y:Int,v=Zg y
       |12=>∃(s:Zi) (y:Int),v=.agg #[Zg gv,.string s,Zg y]/\s.size<=maxLen
       |13=>∃(a':Nat) (s:Zi) (y:Int),v=.slice (some ⟨a',0,none⟩) 1 1/\a'∉(Value.slice R B.length zB).ownBlock.toList/\Aa X a' [Zg gv,.string s,Zg y]/\s.size<=maxLen
       |14=>∃g' c' y,v=.slice (some ⟨g',0,none⟩) (B.length+1) c'/\BN X (w.heap.size+1) q (.slice (some ⟨g,0,none⟩) zs.length tc) (.slice pa zE.length pc) (.slice (some ⟨g',0,none⟩) (B.length+1) c') zs zE (B++[y])
       |15=>v=.pointer (some ⟨q,6,none⟩)
       |_=>True) (fun j X Y=>Tn (Value.slice R B.length zB).ownBlock.toList X Y/\(j≠14->Zz X Y)) ?_ ⟨Tn.of Ad.drew,fun _=>Ad.drew⟩ ?_ ?_
      .intro j i X Y v yW vD xX hE hT;rcases i with _|_|_|_|_|_|_|_|_|_|_|_|_|_|_|_|_<;>first|exact hT|exact trivial|skip
       .obtain⟨a',s,t,e,E,h2,h3⟩:=hT;exact⟨a',s,t,e,E,Aa.same h2 (hE.1.block _ h2.lt E),h3⟩
       .obtain⟨g',c',y,e,E⟩:=hT;exact⟨g',c',y,e,E.below (hE.2 (fun e=>yW e))⟩
      .intro i o' L x X hi ho hL hD hJ J K o;obtain⟨b0,b1,b2,b3,b4,b5,b6⟩:=Aa.c7 (HG.o X hJ.1).1 0 1 2 3 4 5 6;have hr:Tn (Value.slice R B.length zB).ownBlock.toList X X/\(i≠14->Zz X X):=⟨Tn.of Ad,fun _=>Below.refl _ _⟩;have yQ:=hJ.1.size
       have I:i≠14->∀Y,Zz X Y->Tn (Value.slice R B.length zB).ownBlock.toList zI Y/\(Bp L i 14=false->Zz zI Y):=fun h7 Y hY=>⟨hJ.1.trans (Tn.of hY),fun h9=>(hJ.2 (by unfold Bp at h9;rw[if_neg (Ne.symm h7)]at h9;exact h9)).trans (hY.mono yQ)⟩
       rcases(show i=0\/i=1\/i=2\/i=3\/i=4\/i=5\/i=6\/i=7\/i=8\/i=9\/i=10\/i=11\/i=12\/i=13\/i=14\/i=15 by omega)with rfl|rfl|rfl|rfl|rfl|rfl|rfl|rfl|rfl|rfl|rfl|rfl|rfl|rfl|rfl|rfl<;>cases ho<;>simp only[Bc,Act.put,Zq,Zp,Zo]at o |-
       all_goals try (go_simp;exact o.out _ X rfl hr (I (by omega) X Ad))
       all_goals try (simp[EB,Region.binds]at J;simp only[J]at o |-;go_simp;exact o.out _ X rfl hr (I (by omega) X Ad))
       .have d:=J ⟨7,.data⟩ (by simp) (by rfl);rw[show x 7=_ from d]at o |-;obtain⟨_,_,s,hs,c0⟩:=HG.o X hJ.1;go_simp;exact o.out _ X ⟨s,rfl,hs⟩ hr (I (by omega) X Ad)
       .have d:=J ⟨10,.data⟩ (by simp) (by rfl);rw[show x 10=Zg now from d]at o |-;go_simp;exact o.out _ X ⟨_,rfl⟩ hr (I (by omega) X Ad)
       .have d:=J ⟨3,.data⟩ (by simp) (by rfl);obtain⟨s,D,hs⟩:=J ⟨8,.data⟩ (by simp) (by rfl);obtain⟨y,e2⟩:=J ⟨11,.data⟩ (by simp) (by rfl);rw[show x 3=Zg gv from d,D,e2]at o |-;go_simp;exact o.out _ X ⟨s,y,rfl,hs⟩ hr (I (by omega) X Ad)
       .obtain⟨s,y,D,hs⟩:=J ⟨12,.data⟩ (by simp) (by rfl);rw[D]at o |-;have hA:Below X.heap.size X (X.alloc (.cells #[Zg gv,.string s,Zg y] 50)):=Zy;have yB:X.heap.size∉(Value.slice R B.length zB).ownBlock.toList:=fun zC=>by have:=zJ _ zC;omega
        clear D;go_simp;exact o.out _ _ ⟨X.heap.size,s,y,rfl,yB,Aa.new X _ _,hs⟩ ⟨Tn.of hA,fun _=>hA⟩ (I (by omega) _ hA)
       .have d:=J ⟨1,.data⟩ (by simp) (by rfl);obtain⟨a',s,y,D,E,h2,hs⟩:=J ⟨13,.data⟩ (by simp) (by rfl);rw[show x 1=_ from d,D]at o |-;have O:=A.o.R.below (hJ.2 hL);obtain⟨g',c',X',xA,yX,yV,yU⟩:=WV X (w.heap.size+1) _ B ⟨gv,s,y⟩ O.l.o a' h2 (by omega) (by omega) 25;have zM:Tn (Value.slice R B.length zB).ownBlock.toList X X':=SR yV
        have yY:(Value.slice (some ⟨g',0,none⟩) (B.length+1) c').ownBlock≠some q:=fun e=>by
         rcases yU with h|h
         .exact O.l.q (h.trans (by simpa [Value.ownBlock]using e))
         .simp[Value.ownBlock]at e;omega
        have yP:=O.aq zM ⟨yX,yY⟩ (fun p hp=>by rcases List.mem_append.1 hp with h|h;exact .inl h;rw[List.mem_singleton.1 h];exact .inr hs) (by rw[List.length_append];simp;omega);refine Cr (.tmp 78) (.tmp 90) 25 rfl rfl rfl xA ?_;exact o.out _ X' ⟨g',c',⟨gv,s,y⟩,rfl,yP⟩ ⟨zM,fun h=>absurd rfl h⟩ ⟨hJ.1.trans zM,fun h=>by unfold Bp at h;simp at h⟩
      .intro L x X hL hJ hT K o;simp only[Bc,Act.put,Zq,Zp,Zo];obtain⟨g',c',y,D,O⟩:=hT 14 (by decide) (fun j=>by simp);have d:=hT 15 (by decide) (fun j=>by simp);obtain⟨hB,hZ,_⟩:=HG.o X hJ.1
       have HN:Hid (JS w (X.setCell (Zd q 6) (.slice (some ⟨g',0,none⟩) (B.length+1) c')) b a n c p 40001 q wd now gv births (.slice (some ⟨g,0,none⟩) zs.length tc) (.slice pa zE.length pc) (.slice (some ⟨g',0,none⟩) (B.length+1) c') zs zE (B++[y])):=LI A.o hJ.1 zS hB hZ O yA 6 rfl;obtain⟨y5,f5⟩:=hB 6 _ rfl;have vG:=hB.lt;rw[D,show x 15=.pointer (some ⟨q,6,none⟩)from d]
       clear hT O hB hZ HG A hJ;go_simp;refine o.out _ _ ?_;clear o K;have vC:OB q (X.setCell (Zd q 6) (.slice (some ⟨g',0,none⟩) (B.length+1) c'))<200 -B.length:=by unfold OB;rw[(HN.o.box 6 _ rfl).1];simp only;omega
       generalize X.setCell (Zd q 6) (.slice (some ⟨g',0,none⟩) (B.length+1) c')=Y at *
       go_wp2;exact⟨⟨gv,_,B++[y],(by simp;omega:(B++[y]).length<=200),HN.o⟩,by rw[xV.o];exact vC⟩
     .have zU:¬(B.length:Int)<200:=by omega
      have HE:Hid (SQ w wr b a n c p 40001 q):=⟨_,_,_,_,_,_,_,_,_,_,A.o⟩;clear A;go_wp2;go_meet;exact HE
  case rest=>
   clear HA C zH zN;revert wc;intro Y HE;obtain⟨yL,zK,H,T,T',P',L',xF,yJ,yI,F⟩:=HE.o;have O:=F.R;have hB:=F.box;obtain⟨yK,vM,hT⟩:=As O.t.o;obtain⟨N,vL,hP⟩:=As O.p.o;obtain⟨R,vK,hL⟩:=As O.l.o;subst hT hP hL;have HS:Hid _:=O;have A:Hid _:=F;obtain⟨x0,x1,x2,x3,x4,x5,x6⟩:=Aa.c7 hB 0 1 2 3 4 5 6;obtain⟨⟨y0,f0⟩,⟨y1,f1⟩,⟨y2,f2⟩,⟨y3,f3⟩,⟨y4,f4⟩,⟨y5,f5⟩,y6,f6⟩:=Gj F.z;clear O hB F;go_wp2
   refine bodyPost_ret (v:=.agg (Yg yL zK H T yK xF.length vM N yJ.length vL R yI.length vK)) (by simp[results,results12,go_sem,y0,y1,y2,y3,y4,y5,y6]) rfl (HS.o.fin (r:=w.heap.size) (by obtain⟨p',E,h2,h3⟩:=A.o.rd;exact⟨p',E,h2,by omega⟩) A.o.gr yA ?_ (by omega) (by omega))
   repeat refine Tn.trans ?_ (Tn.set _ _ _ _ (by simp))
   exact Tn.of Ad
end Go.Proofs.YtcfjcdpkpiidkaaGreat
