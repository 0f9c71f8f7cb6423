import Derived.Test.YtdofmfnmackjhaaGreatDoorX37
import Derived.Test.YtdofmfnmackjhaaGreatDoorX36
set_option maxRecDepth 100000
set_option maxHeartbeats 16000000
namespace Go.Proofs.YtdofmfnmackjhaaGreatDoor
open ChangeShapes WideShapes ChangeAt RowKit _root_.Go.Proofs.Tryz List World Value
structure KZ (w X:Zh) (b:Nat) (a:Zk) (n c:Nat) (p K:Int) (q:Nat) (wd now given births:Int) (T P L:Value) (zs:List (Kd×Value)) (ps:List Pd) (ls:List Ld):Prop where
 box:Aa X q [Zg wd,Zg now,Zg given,Zg births,T,P,L]
 R:Cg X (w.1.size+1) q T P L zs ps ls
 z:Aa X w.1.size z7
 rd:∃p',AD X b a n c p'/\p<=p'/\p'<=p+K
 gr:w.grownBy X (some b)
 q:w.1.size<q
def Vg(w X:Zh)(b:Nat)(a:Zk)(n c:Nat)(p K:Int)(q:Nat):Prop:=∃wd now given births T P L zs ps ls,KZ w X b a n c p K q wd now given births T P L zs ps ls
theorem Vh{w a:Zh}{o:Option Nat}(h:w.grownBy a o):Tn o.toList w a:=⟨h.os,h.tape,h.output,h.size,λb c d=>h.block b c (λe=>d (by rw[<-e];simp))⟩
theorem Nj{w X Y:Zh}{b:Nat}{a:Zk}{n c:Nat}{p K:Int}{q:Nat}{S F k f:Int}{T P L y u t v:D4}{U s:List (Kd×Value)}{R o:Dy}{O m:Dv}{V:List Nat}(h:KZ w X b a n c p K q S F k f T P L U R O)(D:Tn V X Y)(z:∀x∈V,w.1.size+1<=x){r i e d:Int}{B:Zj}(I:Aa Y q B)(C:Aa Y w.1.size z7)(J:Cg Y (w.1.size+1) q y u t s o m)(W:b<w.1.size)(j:Nat)(M:B.set j v=[Zg r,Zg i,Zg e,Zg d,y,u,t]):KZ w (Y.setCell (Zd q j) v) b a n c p K q r i e d y u t s o m:=by
 have N:=h.q;have l:=AP Y q j v;have⟨Q,G,H⟩:=h.rd;refine⟨by rw[<-M];exact I.set j v,J.K l Yu,Aa.same C (l.block _ C.lt Yt),⟨Q,(G.K D (λg A=>Dz (z g A)) (λE=>Dz (z b E))).K l Yt Yt,H⟩,Dt (Dt h.gr D (λg A=> .inl (Dz (z g A)))) l Yt,N⟩
def Qu(q:Nat)(w:Zh):Nat:=match w.cell? (Zd q 6)with
 |some (.slice _ m _)=>200 -m
 |_=>0
theorem Acg(w:Zh)(g:Nat)(x y:Int)(h:Aa w g [.int .u8 x,.int .u8 y]):∃s,(convert 22 9 (Yz g 2 2)).run prog w=.ok (C4 s) w/\s.size=2:=
 ⟨_,run_convert_bytes_arg (P:=prog) w 22 5 underlying22 underlying5 g 0 2 2 [x,y] rfl (λi a=>by
  rcases(show i=0\/i=1 by omega)with rfl|rfl
  .simpa using (h 0 _ rfl).1
  .simpa using (h 1 _ rfl).1) 9 underlying9,ED [x,y]⟩
theorem ZO(b:Nat)(a:Zk)(n c:Nat)(p:Int)(w:Zh)(h:AD w b a n c p)(hp:0<=p)(xO:p<=600000):
 Calls prog 14 #[.pointer (some ⟨b,0,none⟩)] w (UW w b a n c p 50000):=by
 have zP:=h.lt;obtain⟨W,o⟩:∃W,W=w.alloc (.cells Yi 27):=⟨_,rfl⟩;obtain⟨f,B,c7⟩:=AE (l:=z7) o;have HR:Hid _:=Ri b a n c p W (h.A f) hp (by omega);have F:Hid (Aa W w.1.size z7/\w.grownBy W (some b)/\W.1.size=w.1.size+1):=⟨c7,Ag _ f,B⟩;have A:Hid _:=o;clear o f B c7 h;go_enter func14,ntmps14;go_upto_region 1 with fail;rw[<-A.o];clear A;go_wp2_with fail;refine Calls.mono HR.o ?_;clear HR
 rintro e J ⟨vs,rfl,j,Cm⟩;obtain⟨u,f,rs,H,rfl,O,A⟩:=j.off;have o:∀g∈BX (.slice f.W u.ks.length f.X) (.slice f.N u.ps.length f.Q) (.slice f.L u.ls.length f.P) rs,w.1.size+1<=g/\g≠J.1.size:=fun g hg=>by have E:=A g hg;have h2:=O.dj g hg;have h3:=F.o.2.2;omega
 obtain⟨X0,D⟩:∃X,X=J.alloc (.cells (Yg u.O u.D u.F u.C f.W u.ks.length f.X f.N u.ps.length f.Q f.L u.ls.length f.P) 27):=⟨_,rfl⟩;have C:=(AE (l:=(Yh u.O u.D u.F u.C f.W u.ks.length f.X f.N u.ps.length f.Q f.L u.ls.length f.P)) D).1;have i:=(AE (l:=(Yh u.O u.D u.F u.C f.W u.ks.length f.X f.N u.ps.length f.Q f.L u.ls.length f.P)) D).2.2
 have d:(u.ks.zip rs).length=u.ks.length:=by rw[List.length_zip,O.len,Nat.min_self]
 have yM:w.1.size<J.1.size:=by have E:=Cm.gr.size;have h2:=F.o.2.2;omega
 have N:Hid (KZ w X0 b a n c p 40000 J.1.size u.O u.D u.F u.C (.slice f.W u.ks.length f.X) (.slice f.N u.ps.length f.Q) (.slice f.L u.ls.length f.P) (u.ks.zip rs) u.ps u.ls):=
  ⟨i,(O.jg o (H.R.w H.j)).A C,Aa.A (v:=Ze) (F.o.1.aw Cm.gr (by omega)) C,by obtain⟨p',E,h2⟩:=Cm.R;exact⟨p',E.A C,h2⟩,Aj (Aj F.o.2.1 Cm.gr) (Ag _ C),yM⟩
 have R:Hid (∀X,X0.grownBy X (some b)->Ba X 0 (.slice f.W u.ks.length f.X) (.slice f.N u.ps.length f.Q) (.slice f.L u.ls.length f.P) rs u.ks u.ps u.ls):=fun X hX=>(O.A C).apart (Tn.grown (V:=[b]) hX (by simp)) (fun g hg zA=>by simp at hg;have:=(o g zA).1;omega);have I:Hid (Hf u.ks u.ps u.ls/\∀k∈u.ks,IE k):=⟨H.R,H.j⟩;have T:Hid _:=D;have yW:Hid (u.ks.length=(u.ks.zip rs).length):=d.symm
 clear D C i O A o j H Cm F d;have o:∀S U Q M,(Bw u S U (.slice f.W u.ks.length f.X) (.slice f.N u.ps.length f.Q) (.slice f.L u.ls.length f.P) Q M).toArray= #[Zg u.wd,Zg u.lim,S,U,Zg u.O,Zg u.D,Zg u.F,Zg u.C,.slice f.W u.ks.length f.X,.slice f.N u.ps.length f.Q,.slice f.L u.ls.length f.P,Zg u.M,Q,M,Zg u.U,Zg u.V,Zg u.ro]:=fun _ _ _ _=>rfl;rw[o];clear o
 have o:∀X:Zh,(Instr.field 100 (.agg (Xq u f)) 3).run prog X=.ok (.agg (Yg u.O u.D u.F u.C f.W u.ks.length f.X f.N u.ps.length f.Q f.L u.ls.length f.P)) X:=fun _=>by kernel_rfl
 go_upto_region 2 with fail;rw[<-T.o];clear T o;generalize J.1.size=q at *
 obtain⟨p1,F,xN,xI⟩:=N.o.rd;go_wp2_with fail;refine(AK b a n c p1 20 X0 F (by omega) (by omega) (by omega) (by omega)).mono ?_;rintro e X1 ⟨k,rfl,k0,k1,D,A⟩;have o:Hid _:=R.o X1 A;have C:Hid (KZ w X1 b a n c p 40001 q u.O u.D u.F u.C (.slice f.W u.ks.length f.X) (.slice f.N u.ps.length f.Q) (.slice f.L u.ls.length f.P) (u.ks.zip rs) u.ps u.ls):=by have h:=N.o;have hq:=h.q;exact⟨h.box.aw A (by omega),h.R.K (Tn.grown (V:=[b]) A (by simp)) (by simp;omega),h.z.aw A (by omega),⟨p1+1,D,by omega,by omega⟩,Aj h.gr A,hq⟩
 have zE:Hid (AD X1 b a n c (p1+1)):=D;clear F D A N R;have A:=C.o.q;have xQ:=C.o.gr.size;obtain⟨x0,x1,x2,x3,x4,x5,x6⟩:=Aa.c7 C.o.box 0 1 2 3 4 5 6;by_cases hk3:k<3
 .
  clear x0 x1 x2 x3 x4 x5 x6;obtain⟨x0,x1,x2,x3,x4,x5,x6⟩:=Aa.c7 C.o.box 0 1 2 3 4 5 6;have A:Hid _:=Vc b a n c (p1+1) u.O u.D u.F u.C f.W f.N f.L f.X f.Q f.P u.ks u.ps u.ls X1 zE.o (by omega) (by omega) o.o.get o.o.jw (CF o.o.pins) (CF o.o.au) I.o.1 I.o.2;clear o I;go_wp2_with fail;refine Calls.mono A.o ?_;clear A;rintro e X2 ⟨⟨cs,rfl,A⟩,Cm⟩;have xR:=Cm.gr.size
  obtain⟨zZ,zG,H,T,zY,yT,N,M,R,Q,yS,zX,zV,e7,_,_⟩:=(A [] X2 (by simp) (Tn.of (Below.refl _ _))).ex;subst e7;have HE:Hid (∀Y,Tn [w.1.size] X2 Y->UW w b a n c p 50000 (.returned (.agg (Yg zZ zG H T zY yS.length yT N zX.length M R zV.length Q))) Y):=fun Y hY=>by
   refine⟨⟨_,rfl,fun V Z D hT=>A (w.1.size::V) Z (fun g hg=> ?_) ((hY.mono (by simp)).trans (hT.mono (by simp;intro g hg;exact .inr hg)))⟩,?_,Dt (Aj C.o.gr Cm.gr) hY (by simp)⟩
   .rcases List.mem_cons.1 hg with h|h
    .have:=C.o.z.lt;omega
    .have:=D g h;omega
   .obtain⟨p',E,h2,h3⟩:=Cm.R;exact⟨p',E.K hY (by simp;omega) (by simp;omega),by omega,by omega⟩
  obtain⟨⟨y0,f0⟩,⟨y1,f1⟩,⟨y2,f2⟩,⟨y3,f3⟩,⟨y4,f4⟩,⟨y5,f5⟩,y6,f6⟩:=Hb (C.o.z.aw Cm.gr (by omega));clear A Cm C zE x0 x1 x2 x3 x4 x5 x6;go_wp2;refine bodyPost_ret (v:=.agg (Yg zZ zG H T zY yS.length yT N zX.length M R zV.length Q)) (by simp[results,results14,go_sem,y0,y1,y2,y3,y4,y5,y6]) rfl (HE.o _ ?_)
  repeat refine Tn.trans ?_ (Tn.set _ _ _ _ (by simp))
  exact Tn.of (Below.refl _ _)
 clear o;by_cases hk3':k=3
 .subst hk3';clear hk3 x0 x1 x2 x3 x4 x5 x6;go_wp2_with fail;refine(AK b a n c (p1+1) 30 X1 zE.o (by omega) (by omega) (by omega) (by omega)).mono ?_;rintro e X3 ⟨x,rfl,x0,x1,J,A⟩;go_wp2_with fail;refine(AK b a n c (p1+1+1) 2 X3 J (by omega) (by omega) (by omega) (by omega)).mono ?_;rintro e X4 ⟨y,rfl,y0,y1,d,D⟩;obtain⟨j,rfl⟩:∃j:Nat,x=j:=⟨x.toNat,by omega⟩
  have i:Hid _:=Qf (20+j) (y==0) X4 (by omega);have F:((20+j:Nat):Int)=20+(j:Int):=by omega
  rw[F]at i;have o:Hid (Aa X4 w.1.size z7/\w.grownBy X4 (some b)/\AD X4 b a n c (p1+1+1+1)):=⟨(C.o.z.aw A (by omega)).aw D (by omega),Aj C.o.gr (Aj A D),d⟩;clear J d A D C F zE;go_wp2_with fail;refine Calls.mono i.o ?_;clear i;rintro e X5 D;obtain⟨ta,tm,yO,rfl,O,A⟩:=D.jg (q:=0) (by omega) (by omega);have xP:=o.o.2.1.size;have xS:=o.o.1.lt;have HS:Hid _:=O
  have HR:Hid ((∃p',AD X5 b a n c p'/\p<=p'/\p'<=p+50000)/\w.grownBy X5 (some b)):=⟨⟨_,o.o.2.2.A A,by omega,by omega⟩,Aj o.o.2.1 (Ag _ A)⟩;obtain⟨⟨y0,f0⟩,⟨y1,f1⟩,⟨y2,f2⟩,⟨y3,f3⟩,⟨y4,f4⟩,⟨y5,f5⟩,y6,f6⟩:=Hb (Aa.A (v:=Ze) o.o.1 A);clear O A D o;go_wp2
  refine bodyPost_ret (v:=.agg #[Zg 8,Ze,Ze,Zg ((20+j:Nat):Int),.slice ta yO.length tm,Zb,Zb]) (by simp[results,results14,go_sem,y0,y1,y2,y3,y4,y5,y6]) rfl (HS.o.fin (r:=w.1.size) HR.o.1 HR.o.2 zP ?_ (by omega) (by omega))
  repeat refine Tn.trans ?_ (Tn.set _ _ _ _ (by simp))
  exact Tn.of (Below.refl _ _)
 have xL:4<=k:=by omega
 clear hk3 hk3';rw[yW.o]at C x4;have zN:Hid (u.ps.length<=100/\u.ls.length<=200):=I.o.1.n.2;clear I;generalize u.ks.zip rs=zs at *
 obtain⟨zB,A⟩:∃l,l=u.ps:=⟨_,rfl⟩;obtain⟨zC,o⟩:∃l,l=u.ls:=⟨_,rfl⟩;rw[<-A,<-o]at C zN;rw[<-A]at x5;rw[<-o]at x6;clear A o;generalize u.O=wd at *
 generalize u.D=now at *
 generalize u.F=given at *
 generalize u.C=births at *
 generalize f.W=ta at *
 generalize f.X=tc at *
 generalize f.N=pa at *
 generalize f.Q=pc at *
 generalize f.L=la at *
 generalize f.P=lc at *
 have D:¬k<3:=by omega
 have e2:(k==3)=false:=by simp;omega
 go_upto_region 7 with fail;go_cut [32] (fun v wx=>∃cc:Bool,v=.bool cc/\(cc=true->k=4/\0<zs.length)/\wx=X1)
 case first=>
  by_cases h4:k=4
  .subst h4;go_wp2;go_meet;exact⟨_,rfl,fun h=>⟨by first|trivial|rfl,by simpa using h⟩,rfl⟩
  .have xJ:(k==4)=false:=by simpa using h4
   clear h4;go_wp2;go_meet;exact⟨_,rfl,(fun h=>by cases h),rfl⟩
 case rest=>
 revert wc;rintro X1 ⟨cc,rfl,zI,rfl⟩;clear x0 x1 x2 x3 x4 x5 x6
 go_upto_if 32 with fail
 go_cut [5,32] (fun _ _ wx=>Hid ((k=4->Vg w wx b a n c p 40001 q)/\(k≠4->wx=X1)))
 case first=>
  cases cc with
  |false=>go_wp2;go_meet;exact⟨fun _=>⟨_,_,_,_,_,_,_,_,_,_,C.o⟩,fun _=>rfl⟩
  |true=>
   obtain⟨yP,yN⟩:=zI rfl;subst yP;obtain⟨g,yK⟩:∃g,ta=some ⟨g,0,none⟩:=by
    rcases Kr C.o.R.t.o with⟨_,h⟩|⟨g,yX,h,_⟩
    .omega
    .injection h with E h2 h3;exact⟨g,E⟩
   subst yK;have yB:Hid (zB.length<=100):=zN.o.1;clear zN zI;go_wp2
   go_loopw [5] (fun i wr=>∃m:Nat,i=Zg (m:Int)/\∃P G,Hid (G.length=zB.length+m/\G.length<=100)/\KZ w wr b a n c p 40001 q wd now given births (.slice (some ⟨g,0,none⟩) zs.length tc) P (.slice la zC.length lc) zs G zC) (fun i _=>101 -(intOf i).toNat)
   case atStart=>exact⟨0,rfl,_,zB,⟨by omega,yB.o⟩,C.o⟩
   case round=>
    clear C zE;obtain⟨m,rfl,P,G,zO,F⟩:=hrel;have yU:m<=100:=by have:=zO.o;omega
    have yA:G.length<=100:=zO.o.2;obtain⟨N,M,hP⟩:=Aq F.R.p.o;subst hP;have A:Hid _:=F;clear F;obtain⟨x5,_⟩:=A.o.box 5 _ rfl;by_cases hlt:G.length<100
    .have zK:(G.length:Int)<100:=by omega
     have zF:∀x∈(Value.slice N G.length M).ownBlock.toList,x<wr.1.size:=fun x hx=>(Ac A.o.R.p.o (g:=x) (by simpa using hx)).2;have zJ:∀x∈(Value.slice N G.length M).ownBlock.toList,w.1.size+1<=x:=fun x hx=>(Ac A.o.R.p.o (g:=x) (by simpa using hx)).1;have xF:=A.o.gr.size;have xH:=A.o.z.lt;have zM:=A.o.box.lt
     have HG:Hid (∀X,Tn (Value.slice N G.length M).ownBlock.toList wr X->Aa X q (Yh wd now given births (some ⟨g,0,none⟩) zs.length tc N G.length M la zC.length lc)/\Aa X w.1.size z7/\∃s:Zi,s.size<=maxLen/\X.cell? (Zd g 0)=some (.string s)):=fun X hX=>by
      have F:=A.o;have zS:∀x,x<w.1.size+1\/x=q->x∉(Value.slice N G.length M).ownBlock.toList:=fun x hx zA=>by
       have E:=Ac F.R.p.o (g:=x) (by simpa using zA);rcases hx with hx|hx
       .omega
       .exact F.R.p.q (by rw[<-hx];simpa using zA)
      refine⟨Aa.same F.box (hX.block _ F.box.lt (zS _ (.inr rfl))),Aa.same F.z (hX.block _ F.z.lt (zS _ (.inl (by omega)))),?_⟩;have ho:=(F.R.t.other F.R.p (by decide) hX).o;have E:=ho.cellAt 0 (by omega);obtain⟨z,zr,zT⟩:∃z zr,zs=z::zr:=by
       match zs,yN with
       |z::zr,_=>exact⟨z,zr,rfl⟩
      refine⟨z.1.sum,(F.R.w.k z.1 (by rw[zT];simp)).sl,E.trans ?_⟩;rw[zT];rfl
     go_upto_region 11 with fail;clear x5;refine Co [39,40,41,42,43,44,45,46,47,48,49,50,51,52,53,54,55,56,57,58,59,60] 22 rfl _ rfl (by kernel_rfl) (by kernel_rfl) (by kernel_rfl) (by kernel_rfl) (by kernel_rfl) (by decide) (by kernel_rfl) [] (by kernel_rfl) (fun L X=>Tn (Value.slice N G.length M).ownBlock.toList wr X/\(L 20=false->Zz wr X)) (fun i X v=>match i with
      |0=>v=.pointer (some ⟨q,5,none⟩)
      |1=>v=.slice N G.length M
      |2=>v=Zg m
      |3=>∃y:Int,v=Zg y/\0<=y/\y<=10
      |4=>∃y:Int,v=Zg y
      |5=>∃y:Int,v=.int .u8 y
      |6=>v=Zg m
      |7=>∃y:Int,v=Zg y/\0<=y/\y<=10
      |8=>∃y:Int,v=Zg y
      |9=>∃y:Int,v=.int .u8 y
      |10=>∃S y z,v=.slice (some ⟨S,0,none⟩) 2 2/\S∉(Value.slice N G.length M).ownBlock.toList/\Aa X S [.int .u8 y,.int .u8 z]
      |11=>∃s:Zi,v=.string s/\s.size=2
      |12=>∃s:Zi,v=.string s/\s.size<=3
      |13=>v=.pointer (some ⟨q,4,none⟩)
      |14=>v=.slice (some ⟨g,0,none⟩) zs.length tc
      |15=>v=.pointer (some ⟨g,0,none⟩)
      |16=>v=.pointer (some ⟨g,0,none⟩)
      |17=>∃s:Zi,v=.string s/\s.size<=maxLen
      |18=>∃s u:Zi,v=.agg #[.string s,.string u]/\s.size<=3/\u.size<=maxLen
      |19=>∃S s u,v=.slice (some ⟨S,0,none⟩) 1 1/\S∉(Value.slice N G.length M).ownBlock.toList/\Aa X S [.string s,.string u]/\s.size<=3/\u.size<=maxLen
      |20=>∃Z U y,v=.slice (some ⟨Z,0,none⟩) (G.length+1) U/\Cg X (w.1.size+1) q (.slice (some ⟨g,0,none⟩) zs.length tc) (.slice (some ⟨Z,0,none⟩) (G.length+1) U) (.slice la zC.length lc) zs (G++[y]) zC
      |21=>v=.pointer (some ⟨q,5,none⟩)
      |_=>True) (fun j X Y=>Tn (Value.slice N G.length M).ownBlock.toList X Y/\(j≠20->Zz X Y)) ?_ ⟨Tn.of (Below.refl _ _).drew,fun _=>(Below.refl _ _).drew⟩ ?_ ?_
     .intro j i X Y v yG xB yY hE hT;rcases i with _|_|_|_|_|_|_|_|_|_|_|_|_|_|_|_|_|_|_|_|_|_|_<;>first|exact hT|exact trivial|skip
      .obtain⟨S,y,z,e,E,h2⟩:=hT;exact⟨S,y,z,e,E,Aa.same h2 (hE.1.block _ h2.lt E)⟩
      .obtain⟨S,s,t,e,E,h2,h3⟩:=hT;exact⟨S,s,t,e,E,Aa.same h2 (hE.1.block _ h2.lt E),h3⟩
      .obtain⟨Z,U,y,e,E⟩:=hT;exact⟨Z,U,y,e,E.A (hE.2 (fun e=>yG e))⟩
     .intro i o' L x X hi ho hL hD hJ J K o;obtain⟨b0,b1,b2,b3,b4,b5,b6⟩:=Aa.c7 (HG.o X hJ.1).1 0 1 2 3 4 5 6;have hr:Tn (Value.slice N G.length M).ownBlock.toList X X/\(i≠20->Zz X X):=⟨Tn.of (Below.refl _ _),fun _=>Below.refl _ _⟩;have yD:=hJ.1.size
      have I:i≠20->∀Y,Zz X Y->Tn (Value.slice N G.length M).ownBlock.toList wr Y/\(BJ L i 20=false->Zz wr Y):=fun h7 Y hY=>⟨hJ.1.trans (Tn.of hY),fun h9=>(hJ.2 (by unfold BJ at h9;rw[if_neg (Ne.symm h7)]at h9;exact h9)).trans (hY.mono yD)⟩
      rcases(show i=0\/i=1\/i=2\/i=3\/i=4\/i=5\/i=6\/i=7\/i=8\/i=9\/i=10\/i=11\/i=12\/i=13\/i=14\/i=15\/i=16\/i=17\/i=18\/i=19\/i=20\/i=21 by omega)with rfl|rfl|rfl|rfl|rfl|rfl|rfl|rfl|rfl|rfl|rfl|rfl|rfl|rfl|rfl|rfl|rfl|rfl|rfl|rfl|rfl|rfl<;>cases ho<;>simp only[Bk,Act.put,Zq,Zp,Zo]at o |-
      all_goals try (go_simp;exact o.out _ X rfl hr (I (by omega) X (Below.refl _ _)))
      all_goals try (simp[FV,Region.binds]at J;simp only[J]at o |-;go_simp;exact o.out _ X rfl hr (I (by omega) X (Below.refl _ _)))
      .have d:=J ⟨2,.data⟩ (by simp) (by rfl);rw[show x 2=Zg m from d]at o |-;have xC:(m:Int).tdiv 10=(m:Int)/10:=Int.tdiv_eq_ediv_of_nonneg (by omega);have xD:(m:Int).tmod 10=(m:Int)%10:=Int.tmod_eq_emod_of_nonneg (by omega);have yL:IntKind.i64.wrap ((m:Int)/10)=(m:Int)/10:=BM (by omega) (by omega);have yM:IntKind.i64.wrap ((m:Int)%10)=(m:Int)%10:=BM (by omega) (by omega);go_simp
       exact o.out _ X ⟨_,rfl,by omega,by omega⟩ hr (I (by omega) X (Below.refl _ _))
      .obtain⟨y,D,y0,y1⟩:=J ⟨3,.data⟩ (by simp) (by rfl);rw[D]at o |-;have yL:IntKind.i64.wrap (48+y)=48+y:=BM (by omega) (by omega);go_simp;exact o.out _ X ⟨_,rfl⟩ hr (I (by omega) X (Below.refl _ _))
      .obtain⟨y,D⟩:=J ⟨4,.data⟩ (by simp) (by rfl);rw[D]at o |-;go_simp;exact o.out _ X ⟨_,rfl⟩ hr (I (by omega) X (Below.refl _ _))
      .have d:=J ⟨6,.data⟩ (by simp) (by rfl);rw[show x 6=Zg m from d]at o |-;have xC:(m:Int).tdiv 10=(m:Int)/10:=Int.tdiv_eq_ediv_of_nonneg (by omega);have xD:(m:Int).tmod 10=(m:Int)%10:=Int.tmod_eq_emod_of_nonneg (by omega);have yL:IntKind.i64.wrap ((m:Int)/10)=(m:Int)/10:=BM (by omega) (by omega);have yM:IntKind.i64.wrap ((m:Int)%10)=(m:Int)%10:=BM (by omega) (by omega);go_simp
       exact o.out _ X ⟨_,rfl,by omega,by omega⟩ hr (I (by omega) X (Below.refl _ _))
      .obtain⟨y,D,y0,y1⟩:=J ⟨7,.data⟩ (by simp) (by rfl);rw[D]at o |-;have yL:IntKind.i64.wrap (48+y)=48+y:=BM (by omega) (by omega);go_simp;exact o.out _ X ⟨_,rfl⟩ hr (I (by omega) X (Below.refl _ _))
      .obtain⟨y,D⟩:=J ⟨8,.data⟩ (by simp) (by rfl);rw[D]at o |-;go_simp;exact o.out _ X ⟨_,rfl⟩ hr (I (by omega) X (Below.refl _ _))
      .obtain⟨y,D⟩:=J ⟨5,.data⟩ (by simp) (by rfl);obtain⟨z,e2⟩:=J ⟨9,.data⟩ (by simp) (by rfl);rw[D,e2]at o |-;have hA:Below X.1.size X (X.alloc (.cells #[.int .u8 y,.int .u8 z] 5)):=Zy;have zR:X.1.size∉(Value.slice N G.length M).ownBlock.toList:=fun zA=>by have:=zF _ zA;omega
       clear D e2;go_simp;exact o.out _ _ ⟨X.1.size,y,z,rfl,zR,Aa.new X _ _⟩ ⟨Tn.of hA,fun _=>hA⟩ (I (by omega) _ hA)
      .obtain⟨S,y,z,D,E,h2⟩:=J ⟨10,.data⟩ (by simp) (by rfl);obtain⟨s,hs,xG⟩:=Acg X S y z h2;rw[D]at o |-;clear h2 D;go_simp;exact o.out _ X ⟨s,rfl,xG⟩ hr (I (by omega) X (Below.refl _ _))
      .obtain⟨s,D,E⟩:=J ⟨11,.data⟩ (by simp) (by rfl);rw[D]at o |-;have hl:¬9223372036854775807<1+s.size:=by omega
       have xA:(⟨#[122]⟩:Zi).size=1:=rfl;go_simp;exact o.out _ X ⟨_,rfl,by rw[ByteArray.size_append,xA];omega⟩ hr (I (by omega) X (Below.refl _ _))
      .have d:=J ⟨16,.data⟩ (by simp) (by rfl);rw[show x 16=_ from d]at o |-;obtain⟨_,_,s,hs,c0⟩:=HG.o X hJ.1;go_simp;exact o.out _ X ⟨s,rfl,hs⟩ hr (I (by omega) X (Below.refl _ _))
      .obtain⟨s,D,hs⟩:=J ⟨12,.data⟩ (by simp) (by rfl);obtain⟨t,e2,ht⟩:=J ⟨17,.data⟩ (by simp) (by rfl);rw[D,e2]at o |-;go_simp;exact o.out _ X ⟨s,t,rfl,hs,ht⟩ hr (I (by omega) X (Below.refl _ _))
      .obtain⟨s,t,D,hs,ht⟩:=J ⟨18,.data⟩ (by simp) (by rfl);rw[D]at o |-;have hA:Below X.1.size X (X.alloc (.cells #[.string s,.string t] 71)):=Zy;have zR:X.1.size∉(Value.slice N G.length M).ownBlock.toList:=fun zA=>by have:=zF _ zA;omega
       clear D;go_simp;exact o.out _ _ ⟨X.1.size,s,t,rfl,zR,Aa.new X _ _,hs,ht⟩ ⟨Tn.of hA,fun _=>hA⟩ (I (by omega) _ hA)
      .have d:=J ⟨1,.data⟩ (by simp) (by rfl);obtain⟨S,s,t,D,E,h2,hs,ht⟩:=J ⟨19,.data⟩ (by simp) (by rfl);rw[show x 1=_ from d,D]at o |-;have O:=A.o.R.A (hJ.2 hL);obtain⟨Z,U,X',yJ,yH,yF,yE⟩:=Wz X (w.1.size+1) _ G ⟨s,t⟩ O.p.o S h2 (by omega) (by omega) 24;have zH:Tn (Value.slice N G.length M).ownBlock.toList X X':=Vh yF
       have yI:(Value.slice (some ⟨Z,0,none⟩) (G.length+1) U).ownBlock≠some q:=fun e=>by
        rcases yE with h|h
        .exact O.p.q (h.trans (by simpa [Value.ownBlock]using e))
        .simp[Value.ownBlock]at e;omega
       have xM:(10:Nat)<=maxLen:=by unfold maxLen;omega
       have yC:=O.pins zH ⟨yH,yI⟩ (fun p hp=>by rcases List.mem_append.1 hp with h|h;exact .inl h;rw[List.mem_singleton.1 h];exact .inr ⟨by simp only;omega,ht⟩) (by rw[List.length_append];simp;omega);refine CU (.tmp 40) (.tmp 58) 24 rfl rfl rfl yJ ?_;exact o.out _ X' ⟨Z,U,⟨s,t⟩,rfl,yC⟩ ⟨zH,fun h=>absurd rfl h⟩ ⟨hJ.1.trans zH,fun h=>by unfold BJ at h;simp at h⟩
     .intro L x X hL hJ hT K o;simp only[Bk,Act.put,Zq,Zp,Zo];obtain⟨Z,U,y,D,O⟩:=hT 20 (by decide) (fun j=>by simp);have d:=hT 21 (by decide) (fun j=>by simp);obtain⟨hB,hZ,_⟩:=HG.o X hJ.1
      have HN:Hid (KZ w (X.setCell (Zd q 5) (.slice (some ⟨Z,0,none⟩) (G.length+1) U)) b a n c p 40001 q wd now given births (.slice (some ⟨g,0,none⟩) zs.length tc) (.slice (some ⟨Z,0,none⟩) (G.length+1) U) (.slice la zC.length lc) zs (G++[y]) zC):=Nj A.o hJ.1 zJ hB hZ O zP 5 rfl;obtain⟨y5,f5⟩:=hB 5 _ rfl;have xE:=hB.lt;rw[D,show x 21=.pointer (some ⟨q,5,none⟩)from d];clear hT O hB hZ HG A hJ
      go_simp;refine o.out _ _ ?_;clear o K;go_wp2;exact⟨⟨m+1,by go_num,_,G++[y],(by have:=zO.o;exact⟨by simp;omega,by simp;omega⟩),HN.o⟩,by simp[intOf];omega⟩
    .have zK:¬(G.length:Int)<100:=by omega
     have HE:Hid (Vg w wr b a n c p 40001 q):=⟨_,_,_,_,_,_,_,_,_,_,A.o⟩;clear A;go_wp2;go_meet;exact⟨fun _=>HE.o,fun h=>absurd rfl h⟩
 case rest=>
  revert wc;intro X2 HA;go_upto_region 12 with fail;go_cut [68] (fun v wx=>∃cc:Bool,v=.bool cc/\(cc=true->k=5/\0<zs.length)/\wx=X2)
  case first=>
   by_cases h5:k=5
   .subst h5;obtain rfl:X2=X1:=HA.o.2 (by omega);obtain⟨x4,_⟩:=C.o.box 4 _ rfl;go_wp2;go_meet;exact⟨_,rfl,fun h=>⟨by first|trivial|rfl,by simpa using h⟩,rfl⟩
   .have xK:(k==5)=false:=by simpa using h5
    clear h5;go_wp2;go_meet;exact⟨_,rfl,(fun h=>by cases h),rfl⟩
  case rest=>
  revert wc;rintro X2 ⟨cc,rfl,zI,rfl⟩
  go_upto_if 68 with fail
  go_cut [68] (fun _ wx=>Hid (Vg w wx b a n c p 40001 q))
  case first=>
   cases cc with
   |false=>
    have HE:Hid (Vg w X2 b a n c p 40001 q):=by
     by_cases h4:k=4
     .exact HA.o.1 h4
     .rw[HA.o.2 h4];exact⟨_,_,_,_,_,_,_,_,_,_,C.o⟩
    clear HA C zE zI;go_wp2;go_meet;exact HE
   |true=>
    obtain⟨yZ,yN⟩:=zI rfl;obtain rfl:X2=X1:=HA.o.2 (by omega);subst yZ;obtain⟨g,yK⟩:∃g,ta=some ⟨g,0,none⟩:=by
     rcases Kr C.o.R.t.o with⟨_,h⟩|⟨g,yX,h,_⟩
     .omega
     .injection h with E h2 h3;exact⟨g,E⟩
    subst yK;have yB:Hid (zC.length<=200):=zN.o.2;clear zN zI HA;go_wp2
    go_loopw [73] (fun _ wr=>∃(gv:Int) (L:Value) (B:List Ld),Hid (B.length<=200)/\KZ w wr b a n c p 40001 q wd now gv births (.slice (some ⟨g,0,none⟩) zs.length tc) (.slice pa zB.length pc) L zs zB B) (fun _ wr=>Qu q wr)
    case atStart=>exact⟨_,_,zC,yB,C.o⟩
    case round=>
     clear C zE;obtain⟨H,L,B,zO,F⟩:=hrel;obtain⟨R,Q,hL⟩:=Aq F.R.l.o;subst hL;obtain⟨x6,_⟩:=F.box 6 _ rfl;have yR:Qu q wr=200 -B.length:=by unfold Qu;rw[x6]
     have yV:Hid _:=yR;have A:Hid _:=F;clear F yR;by_cases hlt:B.length<200
     .have zK:(B.length:Int)<200:=by omega
      have yQ:Hid (∀x,KZ w (wr.setCell (Zd q 2) (Zg x)) b a n c p 40001 q wd now x births (.slice (some ⟨g,0,none⟩) zs.length tc) (.slice pa zB.length pc) (.slice R B.length Q) zs zB B):=fun x=>Nj A.o (V:=[]) (Tn.of (Below.refl _ _)) (by simp) A.o.box A.o.z A.o.R zP 2 rfl;obtain⟨x2,f2⟩:=A.o.box 2 _ rfl;have zM:=A.o.box.lt;clear A;go_upto_region 15 with fail;generalize wrap64 (H+1)=gv
      clear x2 f2 x6;have A:Hid _:=yQ.o gv;clear yQ;clear zM;obtain⟨V,zU⟩:∃X,X=wr.setCell (Zd q 2) (Zg gv):=⟨_,rfl⟩;rw[<-zU]at A |-;clear zU;have zF:∀x∈(Value.slice R B.length Q).ownBlock.toList,x<V.1.size:=fun x hx=>(Ac A.o.R.l.o (g:=x) (by simpa using hx)).2;have zJ:∀x∈(Value.slice R B.length Q).ownBlock.toList,w.1.size+1<=x:=fun x hx=>(Ac A.o.R.l.o (g:=x) (by simpa using hx)).1
      have xF:=A.o.gr.size;have xH:=A.o.z.lt;have zM:=A.o.box.lt;have yA:B.length<=200:=zO.o;have HG:Hid (∀X,Tn (Value.slice R B.length Q).ownBlock.toList V X->Aa X q (Yh wd now gv births (some ⟨g,0,none⟩) zs.length tc pa zB.length pc R B.length Q)/\Aa X w.1.size z7/\∃s:Zi,s.size<=maxLen/\X.cell? (Zd g 0)=some (.string s)):=fun X hX=>by
       have F:=A.o;have zS:∀x,x<w.1.size+1\/x=q->x∉(Value.slice R B.length Q).ownBlock.toList:=fun x hx zA=>by
        have E:=Ac F.R.l.o (g:=x) (by simpa using zA);rcases hx with hx|hx
        .omega
        .exact F.R.l.q (by rw[<-hx];simpa using zA)
       refine⟨Aa.same F.box (hX.block _ F.box.lt (zS _ (.inr rfl))),Aa.same F.z (hX.block _ F.z.lt (zS _ (.inl (by omega)))),?_⟩;have ho:=(F.R.t.other F.R.l (by decide) hX).o;have E:=ho.cellAt 0 (by omega);obtain⟨z,zr,zT⟩:∃z zr,zs=z::zr:=by
        match zs,yN with
        |z::zr,_=>exact⟨z,zr,rfl⟩
       refine⟨z.1.sum,(F.R.w.k z.1 (by rw[zT];simp)).sl,E.trans ?_⟩;rw[zT];rfl
      refine Co [77,78,79,80,81,82,83,84,85,86,87,88,89,90,91,92] 16 rfl _ rfl (by kernel_rfl) (by kernel_rfl) (by kernel_rfl) (by kernel_rfl) (by kernel_rfl) (by decide) (by kernel_rfl) [] (by kernel_rfl) (fun L X=>Tn (Value.slice R B.length Q).ownBlock.toList V X/\(L 14=false->Zz V X)) (fun i X v=>match i with
       |0=>v=.pointer (some ⟨q,6,none⟩)
       |1=>v=.slice R B.length Q
       |2=>v=.pointer (some ⟨q,2,none⟩)
       |3=>v=Zg gv
       |4=>v=.pointer (some ⟨q,4,none⟩)
       |5=>v=.slice (some ⟨g,0,none⟩) zs.length tc
       |6=>v=.pointer (some ⟨g,0,none⟩)
       |7=>v=.pointer (some ⟨g,0,none⟩)
       |8=>∃s:Zi,v=.string s/\s.size<=maxLen
       |9=>v=.pointer (some ⟨q,1,none⟩)
       |10=>v=Zg now
       |11=>∃y:Int,v=Zg y
       |12=>∃(s:Zi) (y:Int),v=.agg #[Zg gv,.string s,Zg y]/\s.size<=maxLen
       |13=>∃(S:Nat) (s:Zi) (y:Int),v=.slice (some ⟨S,0,none⟩) 1 1/\S∉(Value.slice R B.length Q).ownBlock.toList/\Aa X S [Zg gv,.string s,Zg y]/\s.size<=maxLen
       |14=>∃Z U y,v=.slice (some ⟨Z,0,none⟩) (B.length+1) U/\Cg X (w.1.size+1) q (.slice (some ⟨g,0,none⟩) zs.length tc) (.slice pa zB.length pc) (.slice (some ⟨Z,0,none⟩) (B.length+1) U) zs zB (B++[y])
       |15=>v=.pointer (some ⟨q,6,none⟩)
       |_=>True) (fun j X Y=>Tn (Value.slice R B.length Q).ownBlock.toList X Y/\(j≠14->Zz X Y)) ?_ ⟨Tn.of (Below.refl _ _).drew,fun _=>(Below.refl _ _).drew⟩ ?_ ?_
      .intro j i X Y v yG xB yY hE hT;rcases i with _|_|_|_|_|_|_|_|_|_|_|_|_|_|_|_|_<;>first|exact hT|exact trivial|skip
       .obtain⟨S,s,t,e,E,h2,h3⟩:=hT;exact⟨S,s,t,e,E,Aa.same h2 (hE.1.block _ h2.lt E),h3⟩
       .obtain⟨Z,U,y,e,E⟩:=hT;exact⟨Z,U,y,e,E.A (hE.2 (fun e=>yG e))⟩
      .intro i o' L x X hi ho hL hD hJ J K o;obtain⟨b0,b1,b2,b3,b4,b5,b6⟩:=Aa.c7 (HG.o X hJ.1).1 0 1 2 3 4 5 6;have hr:Tn (Value.slice R B.length Q).ownBlock.toList X X/\(i≠14->Zz X X):=⟨Tn.of (Below.refl _ _),fun _=>Below.refl _ _⟩;have yD:=hJ.1.size
       have I:i≠14->∀Y,Zz X Y->Tn (Value.slice R B.length Q).ownBlock.toList V Y/\(BJ L i 14=false->Zz V Y):=fun h7 Y hY=>⟨hJ.1.trans (Tn.of hY),fun h9=>(hJ.2 (by unfold BJ at h9;rw[if_neg (Ne.symm h7)]at h9;exact h9)).trans (hY.mono yD)⟩
       rcases(show i=0\/i=1\/i=2\/i=3\/i=4\/i=5\/i=6\/i=7\/i=8\/i=9\/i=10\/i=11\/i=12\/i=13\/i=14\/i=15 by omega)with rfl|rfl|rfl|rfl|rfl|rfl|rfl|rfl|rfl|rfl|rfl|rfl|rfl|rfl|rfl|rfl<;>cases ho<;>simp only[Bk,Act.put,Zq,Zp,Zo]at o |-
       all_goals try (go_simp;exact o.out _ X rfl hr (I (by omega) X (Below.refl _ _)))
       all_goals try (simp[FV,Region.binds]at J;simp only[J]at o |-;go_simp;exact o.out _ X rfl hr (I (by omega) X (Below.refl _ _)))
       .have d:=J ⟨7,.data⟩ (by simp) (by rfl);rw[show x 7=_ from d]at o |-;obtain⟨_,_,s,hs,c0⟩:=HG.o X hJ.1;go_simp;exact o.out _ X ⟨s,rfl,hs⟩ hr (I (by omega) X (Below.refl _ _))
       .have d:=J ⟨10,.data⟩ (by simp) (by rfl);rw[show x 10=Zg now from d]at o |-;go_simp;exact o.out _ X ⟨_,rfl⟩ hr (I (by omega) X (Below.refl _ _))
       .have d:=J ⟨3,.data⟩ (by simp) (by rfl);obtain⟨s,D,hs⟩:=J ⟨8,.data⟩ (by simp) (by rfl);obtain⟨y,e2⟩:=J ⟨11,.data⟩ (by simp) (by rfl);rw[show x 3=Zg gv from d,D,e2]at o |-;go_simp;exact o.out _ X ⟨s,y,rfl,hs⟩ hr (I (by omega) X (Below.refl _ _))
       .obtain⟨s,y,D,hs⟩:=J ⟨12,.data⟩ (by simp) (by rfl);rw[D]at o |-;have hA:Below X.1.size X (X.alloc (.cells #[Zg gv,.string s,Zg y] 73)):=Zy;have zR:X.1.size∉(Value.slice R B.length Q).ownBlock.toList:=fun zA=>by have:=zF _ zA;omega
        clear D;go_simp;exact o.out _ _ ⟨X.1.size,s,y,rfl,zR,Aa.new X _ _,hs⟩ ⟨Tn.of hA,fun _=>hA⟩ (I (by omega) _ hA)
       .have d:=J ⟨1,.data⟩ (by simp) (by rfl);obtain⟨S,s,y,D,E,h2,hs⟩:=J ⟨13,.data⟩ (by simp) (by rfl);rw[show x 1=_ from d,D]at o |-;have O:=A.o.R.A (hJ.2 hL);obtain⟨Z,U,X',yJ,yH,yF,yE⟩:=Ada X (w.1.size+1) _ B ⟨gv,s,y⟩ O.l.o S h2 (by omega) (by omega) 25;have zH:Tn (Value.slice R B.length Q).ownBlock.toList X X':=Vh yF
        have yI:(Value.slice (some ⟨Z,0,none⟩) (B.length+1) U).ownBlock≠some q:=fun e=>by
         rcases yE with h|h
         .exact O.l.q (h.trans (by simpa [Value.ownBlock]using e))
         .simp[Value.ownBlock]at e;omega
        have yC:=O.au zH ⟨yH,yI⟩ (fun p hp=>by rcases List.mem_append.1 hp with h|h;exact .inl h;rw[List.mem_singleton.1 h];exact .inr hs) (by rw[List.length_append];simp;omega);refine CU (.tmp 78) (.tmp 90) 25 rfl rfl rfl yJ ?_;exact o.out _ X' ⟨Z,U,⟨gv,s,y⟩,rfl,yC⟩ ⟨zH,fun h=>absurd rfl h⟩ ⟨hJ.1.trans zH,fun h=>by unfold BJ at h;simp at h⟩
      .intro L x X hL hJ hT K o;simp only[Bk,Act.put,Zq,Zp,Zo];obtain⟨Z,U,y,D,O⟩:=hT 14 (by decide) (fun j=>by simp);have d:=hT 15 (by decide) (fun j=>by simp);obtain⟨hB,hZ,_⟩:=HG.o X hJ.1
       have HN:Hid (KZ w (X.setCell (Zd q 6) (.slice (some ⟨Z,0,none⟩) (B.length+1) U)) b a n c p 40001 q wd now gv births (.slice (some ⟨g,0,none⟩) zs.length tc) (.slice pa zB.length pc) (.slice (some ⟨Z,0,none⟩) (B.length+1) U) zs zB (B++[y])):=Nj A.o hJ.1 zJ hB hZ O zP 6 rfl;obtain⟨y5,f5⟩:=hB 6 _ rfl;have xE:=hB.lt;rw[D,show x 15=.pointer (some ⟨q,6,none⟩)from d];clear hT O hB hZ HG A hJ
       go_simp;refine o.out _ _ ?_;clear o K;have o:Qu q (X.setCell (Zd q 6) (.slice (some ⟨Z,0,none⟩) (B.length+1) U))<200 -B.length:=by unfold Qu;rw[(HN.o.box 6 _ rfl).1];simp only;omega
       generalize X.setCell (Zd q 6) (.slice (some ⟨Z,0,none⟩) (B.length+1) U)=Y at *
       go_wp2;exact⟨⟨gv,_,B++[y],(by simp;omega:(B++[y]).length<=200),HN.o⟩,by rw[yV.o];exact o⟩
     .have zK:¬(B.length:Int)<200:=by omega
      have HE:Hid (Vg w wr b a n c p 40001 q):=⟨_,_,_,_,_,_,_,_,_,_,A.o⟩;clear A;go_wp2;go_meet;exact HE
  case rest=>
   clear HA C zE zI;revert wc;intro Y HE;obtain⟨zZ,zG,H,T,T',P',L',yO,zX,zV,F⟩:=HE.o;have O:=F.R;have hB:=F.box;obtain⟨zY,Y,hT⟩:=Aq O.t.o;obtain⟨N,K,hP⟩:=Aq O.p.o;obtain⟨R,C,hL⟩:=Aq O.l.o;subst hT hP hL;have HS:Hid _:=O;have A:Hid _:=F;obtain⟨x0,x1,x2,x3,x4,x5,x6⟩:=Aa.c7 hB 0 1 2 3 4 5 6;obtain⟨⟨y0,f0⟩,⟨y1,f1⟩,⟨y2,f2⟩,⟨y3,f3⟩,⟨y4,f4⟩,⟨y5,f5⟩,y6,f6⟩:=Hb F.z;clear O hB F;go_wp2
   refine bodyPost_ret (v:=.agg (Yg zZ zG H T zY yO.length Y N zX.length K R zV.length C)) (by simp[results,results14,go_sem,y0,y1,y2,y3,y4,y5,y6]) rfl (HS.o.fin (r:=w.1.size) (by obtain⟨p',E,h2,h3⟩:=A.o.rd;exact⟨p',E,h2,by omega⟩) A.o.gr zP ?_ (by omega) (by omega))
   repeat refine Tn.trans ?_ (Tn.set _ _ _ _ (by simp))
   exact Tn.of (Below.refl _ _)
theorem Abk(a:Zk)(c:Nat)(b:Zl)(x:Zi)(w:Zh)(d:Af w w.1.size a b)(n:b.length<=1048576)(g:x∉b):
 D8 12 #[C3 a b.length c,C4 x] w λe f=>e=C5 (.bool false)/\Zz w f:=by
 have f:Hid (Af w w.1.size a b/\x∉b):=⟨d,g⟩;clear d g;go_enter func12,ntmps12;go_wp2
 go_loopw [5] (λj wr=>∃k:Nat,k<=b.length/\j=Zg k/\wr=w) (λj _=>b.length -(intOf j).toNat)
 case atStart=>exact⟨0,Az _,rfl,rfl⟩
 case round=>
  obtain⟨k,m,rfl,rfl⟩:=hrel;by_cases hlt:k<b.length
  .obtain⟨o,p,h,i,d⟩:=f.1.at hlt;subst h;have l:=d k _ (Zv hlt);have g:b[k]≠x:=λe=>f.2 (e▸getElem_mem hlt);clear d;generalize b[k]=y at *
   have b:=Br g;go_wp2;exact⟨⟨k+1,Yv,Yn,trivial⟩,Ys⟩
  .go_wp2;go_ret;exact⟨rfl,Ad⟩
theorem ZP(a:Zk)(c:Nat)(b:Zl)(x:Zi)(w:Zh)(i:Af w w.1.size a b)(g:b.length<=1048576):
 Calls prog 12 #[.slice a b.length c,.string x] w fun e f=>Ay (x∈b) w f e:=by
 by_cases h:x∈b
 .refine(YG a c b x w i g h).mono ?_;rintro e f ⟨rfl,d⟩;exact Ay.yes h d
 .refine(Abk a c b x w i g h).mono ?_;rintro e f ⟨rfl,d⟩;exact Ay.no h d
