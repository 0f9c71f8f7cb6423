import Derived.Test.YtcfjcdpkpiidkaaGreatX33
set_option maxRecDepth 100000
set_option maxHeartbeats 16000000
namespace Go.Proofs.YtcfjcdpkpiidkaaGreat
open ChangeShapes WideShapes ChangeAt RowKit _root_.Go.Proofs.Tryz
structure Wo (q g0:Nat) (W:Zh) (wd now given births:Int) (ks:List Kd) (ps:List Pd) (ls:List Ld) (U k:Nat) (last:Int) (da:Zk) (dc:Nat) (D:Zl) (wr:Zh):Prop where
 ex:∃(tz pz lz qz mz:Zk) (tzc pzc lzc qzc mzc:Nat) (kz:List Kd) (ph top at_ ro:Int) (qs ms:Zl) (M:Nat),Hq wd now given births ks ps ls kz ph top at_ ro qs ms D last M/\M+k<=U/\Aa wr (g0+1) [Zg wd,Zg now,Zg given,Zg births,.slice tz kz.length tzc,.slice pz ps.length pzc,.slice lz ls.length lzc]/\Aa wr (q+1) [Zg ph,.slice qz qs.length qzc,.slice mz ms.length mzc,Zg top,Zg at_,Zg ro]/\Oo q (g0+2) wr tz pz lz qz mz kz ps ls qs ms
 fk:Jh q g0 W wr
 dr:Ah wr g0 (.slice da D.length dc) D
 dn:Aj (.slice da D.length dc)≠some (g0+1)
theorem Ez.sub{c d:List Kd}(h:Ez c)(b:d.Sublist c):Ez d:=
 ⟨Zm b.length_le h.len,fun k a=>h.sum k (b.subset a),fun k a=>h.F k (b.subset a),fun k a=>h.B k (b.subset a),fun k a=>h.ref k (b.subset a)⟩
theorem EZ.sub{b c:List Kd}{e:List Pd}{d:List Ld}(h:EZ b e d)(a:c.Sublist b):EZ c e d:=
 ⟨Zm a.length_le h.k,fun k f=>h.r k (a.subset f),h.p,h.l⟩
theorem OD(a:Zk)(n c:Nat)(w:Zh)(hn:n<=maxLen)(hb:PJ w a n)(hc:n<=c):
 Calls prog 3 #[.slice a n c] w fun e w'=>e=.returned (.bool true)/\Zz w w':=by
 by_cases h20:(1048576:Int)<n
 .clear hb hc hn;go_enter func3,ntmps3;go_wp2;go_ret;exact⟨rfl,Ad⟩
 have HD:=Yw (OC a n c w hn hb hc);clear hb hc hn;go_enter func3,ntmps3;go_wp2_with fail;refine HD.Am ?_;clear HD;rintro e w1 ⟨cs,rfl,hS,zT⟩;obtain⟨B,now,x,f,ta,tc,pa,pc,la,lc,A,z,y,e7,yA,hw⟩:=hS.ex;subst e7;obtain⟨W,hW⟩:=Af ((w1.alloc (.cells (Yg B now x f ta A.length tc pa z.length pc la y.length lc) 27)).alloc (.cells Xx 31))
 obtain⟨bW,zW,cW,rW⟩:=Bf (l:=(Yh B now x f ta A.length tc pa z.length pc la y.length lc)) (k:=Xu) hW;have HB:Hid (∀X,Below w1.heap.size W X->Zz w X):=fun X E=>zT.trans ((bW.trans E).mono zT.size)
 have HX:Hid (∀X,Zz W X->Aa X w1.heap.size (Yh B now x f ta A.length tc pa z.length pc la y.length lc)/\Aa X (w1.heap.size+1) Xu/\AW X X.heap.size ta pa la A z y/\Below w1.heap.size W X):=fun X E=>⟨Aa.below cW E,Aa.below rW E,(yA.L bW).L E,E.mono Yv⟩;have xA:Hid (∀X,Below w1.heap.size W X->AW X w1.heap.size ta pa la A z y):=fun X E=>(yA.ah bW).ah E;obtain⟨tB,tM,tE,tP,vV⟩:=hw.km
 have K:=Yw (Za tB (Za tM (Za tE (Za tP vV))));have HZ:Hid (W.heap.size=w1.heap.size+2):=zW;have HW:=Yw hW;clear hW bW zW cW rW yA hw hS tB tM tE tP vV zT;go_upto_region 5 with fail;rw[<-HW.o];clear HW;generalize w1.heap.size=q at *
 have HV:=Yw (DT B now x f ta pa la tc pc lc A z y W (HX.o W Ad).2.2.1 K.o.1 K.o.2.1 K.o.2.2.2.1);obtain⟨x0,x1,x2,x3,x4,x5,x6⟩:=Aa.c7 (HX.o W Ad).1 0 1 2 3 4 5 6;go_wp2_with fail;refine HV.Am ?_;clear HV x0 x1 x2 x3 x4 x5 x6;rintro e w4 ⟨bv,rfl,yK,zI⟩;have C:Hid (Zz W w4):=zI;clear zI;cases bv with
 |false=>
  have tJ:¬AI B now x f A z y:=fun h=>by have:=yK.2 h;cases this
  have HU:=Yw (PF B now x f ta pa la tc pc lc A z y 0 0 0 0 none none 0 0 [] [] w4 (HX.o w4 C.o).2.2.1 K.o.1 K.o.2.1 K.o.2.2.1 K.o.2.2.2.1 K.o.2.2.2.2 (.inl rfl) (.inl rfl) ⟨Yu,Yu⟩);obtain⟨x0,x1,x2,x3,x4,x5,x6⟩:=Aa.c7 (HX.o w4 C.o).1 0 1 2 3 4 5 6;obtain⟨y0,y1,y2,y3,y4,y5⟩:=Aa.c6 (HX.o w4 C.o).2.1 0 1 2 3 4 5;have sC:=Yw tJ;clear yK tJ;go_wp2_with fail;refine HU.Am ?_
  clear HU x0 x1 x2 x3 x4 x5 x6 y0 y1 y2 y3 y4 y5;rintro e w5 ⟨o,T,P,L,Q,M,D,rs,rfl,hU,hC,zJ⟩;obtain⟨_,_,rfl⟩:=As hC.R.aj;obtain⟨_,_,rfl⟩:=As hC.R.pins;obtain⟨_,_,rfl⟩:=As hC.R.aq;obtain⟨_,_,rfl,_⟩:=hC.q.row;obtain⟨_,_,rfl,_⟩:=hC.mr.row;obtain⟨_,_,rfl,_⟩:=hC.dd.row;have HE:Hid (Zz w w5):=HB.o w5 (HX.o w5 (C.o.trans (zJ.mono C.o.size))).2.2.2;cases hU with
  |good h=>exact absurd h.1.1 sC.o
  |bad _=>
   have sV:∀(t p l q m d:Value) (X:Zh),(Instr.field 34 (.agg #[Zg 1,Ze,Ze,Ze,Ze,t,p,l,Ze,q,m,Ze,Ze,Ze,d]) 0).run prog X=.ok (Zg 1) X:=fun _ _ _ _ _ _ _=>by kernel_rfl
   clear zJ hC;simp only[NZ];go_wp2;go_ret;exact⟨rfl,HE.o⟩
 |true=>
  have hP:AI B now x f A z y:=yK.1 rfl;have HP:Hid (AI B now x f A z y):=hP;have sP:=hP.bh.ak;have sQ:=hP.bh.cj;have tA:A.length<=600:=hP.nth;have sL:z.length<=100:=hP.np;have sJ:y.length<=200:=hP.nl;have rA:=Ss hP;have sF:Hid (∀s∈wasteA B now x f A z y,True):=fun _ _=>trivial;have xY:Hid (∀k∈A,k.B.length<=30):=fun k hk=>by obtain⟨i,hi⟩:=List.getElem?_of_mem hk;exact(AV (hP.th i k hi).ok).B
  have vC:=Yw (Sh B now x f ta pa la tc pc lc A z y w4 (HX.o w4 C.o).2.2.1 K.o.1 K.o.2.1 K.o.2.2.2.1);have sD:Hid (∀{kz:List Kd} {ph zN zH ro last:Int} {qs ms D:Zl} {M:Nat} {r:UR},Hq B now x f A z y kz ph zN zH ro qs ms D last M->UTo kz z y f ph zN zH ro qs ms r->_):=fun h hu=>h.step hP hu;clear yK hP sF;generalize liveA B now x f A z y=lv at *
  generalize hwv:wasteA B now x f A z y=wv at *
  have sG:=Yw hwv;clear hwv;obtain⟨x0,x1,x2,x3,x4,x5,x6⟩:=Aa.c7 (HX.o w4 C.o).1 0 1 2 3 4 5 6;go_wp2_with fail;refine vC.Am ?_;clear vC x0 x1 x2 x3 x4 x5 x6;rintro e w5 ⟨v,rfl,xS,zJ⟩;obtain⟨xV,tQ,rfl⟩:=As xS;have zG:Hid (Zz W w5):=C.o.trans (zJ.mono C.o.size);have vA:Hid (Ah w5 (q+2) (.slice xV lv.length tQ) lv):=(Ah.own xS).mono (by have:=C.o.size;have:=HZ.o;omega)
  have xE:=Yw (QH B now x f ta pa la tc pc lc A z y w5 (HX.o w5 zG.o).2.2.1 K.o.1 K.o.2.1 K.o.2.2.2.1);rw[sG.o]at xE;obtain⟨x0,x1,x2,x3,x4,x5,x6⟩:=Aa.c7 (HX.o w5 zG.o).1 0 1 2 3 4 5 6;clear xS zJ C;go_wp2_with fail;refine xE.Am ?_;clear xE x0 x1 x2 x3 x4 x5 x6;rintro e w6 ⟨v,rfl,xT,xP⟩;obtain⟨tU,sO,rfl⟩:=As xT;have yB:Hid (Zz W w6):=zG.o.trans (xP.mono zG.o.size)
  have yZ:Hid (Ah w6 (q+2) (.slice xV lv.length tQ) lv/\Ah w6 (q+2) (.slice tU wv.length sO) wv):=⟨vA.o.below xP,(Ah.own xT).mono (by have:=zG.o.size;have:=HZ.o;omega)⟩;clear xT xP zG vA;obtain⟨W6,xM⟩:=Af ((w6.alloc (.cells #[] 9)).alloc (.cells (Yg B now x f ta A.length tc pa z.length pc la y.length lc) 27))
  obtain⟨b6,z6,_,c6⟩:=Bf (l:=[]) (k:=(Yh B now x f ta A.length tc pa z.length pc la y.length lc)) xM;have vP:Ah W6 w6.heap.size (Yz w6.heap.size ([]:Zl).length 0) []:=.inr ⟨w6.heap.size,0,0,rfl,Zx,Yv,Zx,Nat.zero_le _,fun j hj=>by omega,fun i s hs=>by simp at hs⟩;have rC:q+2<=w6.heap.size:=by have:=yB.o.size;have:=HZ.o;omega
  have yC:Hid (∀X,Jh q w6.heap.size W6 X->Aa X q (Yh B now x f ta A.length tc pa z.length pc la y.length lc)/\AQ X X.heap.size ta A/\Ab X X.heap.size xV lv/\Ab X X.heap.size tU wv/\Zz w X/\w6.heap.size<=X.heap.size):=fun X E=>by
   have hs:=E.be.size;have S:∀{a:Zk} {c:Nat} {ss:Zl},Ah w6 (q+2) (.slice a ss.length c) ss->Ab X X.heap.size a ss:=fun ho=>by obtain⟨a',c',e,hr⟩:=(ho.stays (w':=X) Yv (fun g hg=>(E.pb g (ho.V hg).2 (by have:=(ho.V hg).1;omega)).trans (b6.block g (ho.V hg).2))).row;cases e;exact hr
   have h2:=HX.o w6 yB.o;have h3:Below q W X:=h2.2.2.2.trans ((b6.mono Yv).trans E.be);exact⟨Aa.same h2.1 ((E.pb q Yv Yv).trans (b6.block q Yv)),AQ.mono (xA.o X h3).k Yv,S yZ.o.1,S yZ.o.2,HB.o X h3,Yv⟩
  have yX:Hid (Wo q w6.heap.size W6 B now x f A z y (3 *(A.length+z.length+y.length+DJ A)+3) 0 (f+1) (some ⟨w6.heap.size,0,none⟩) 0 [] W6):=by
   have h2:=HX.o w6 yB.o;have hm:=SD A z y;refine⟨⟨ta,pa,la,none,none,tc,pc,lc,0,0,A,0,0,0,0,[],[],_,Hq.start HP.o,Yv,c6,Aa.same h2.2.1 (b6.block (q+1) Yv),fun V Y hV hY=> ?_⟩,⟨Ad,fun _ _ _=>rfl,Yv⟩,vP,by simp[Aj]⟩;have h3:Below q W Y:=(h2.2.2.2.trans (b6.mono Yv)).trans (hY.below Yv (fun b hb=>(hV b hb).1))
   exact⟨(xA.o Y h3).mono (by have:=hY.size;omega),.inl rfl,.inl rfl⟩
  obtain⟨x0,x1,x2,x3,x4,x5,x6⟩:=Aa.c7 (HX.o w6 yB.o).1 0 1 2 3 4 5 6;have tN:q<w6.heap.size:=Yv
  have vD:=Yw xM;clear xM b6 z6 c6 vP yZ HX xA HB;go_upto_region 12 with fail;rw[<-vD.o];clear vD x0 x1 x2 x3 x4 x5 x6;generalize w6.heap.size=g0 at *
  go_wp2;obtain⟨U,hU⟩:∃U:Nat,U=3 *(A.length+z.length+y.length+DJ A)+3:=⟨_,rfl⟩;have sU:U<=60000:=by have:=LH xY.o;omega
  have sE:Hid (3 *((A.length+z.length+y.length+DJ A:Nat):Int)+3=(U:Int)):=by show _=_;omega
  rw[<-hU]at yX;clear hU
  go_loopw [7,8,10] (fun dv lv kv wr=>∃(k:Nat) (last:Int) (da:Zk) (dc:Nat) (D:Zl),dv=.slice da D.length dc/\lv=Zg last/\kv=Zg k/\Hid (Wo q g0 W6 B now x f A z y U k last da dc D wr)) (fun _ _ kv _=>U -(intOf kv).toNat)
  case atStart=>exact⟨0,_,_,_,[],rfl,rfl,rfl,yX⟩
  case round=>
   clear yX yB;obtain⟨k,last,da,dc,D,rfl,rfl,rfl,R⟩:=hrel;obtain⟨tz,pz,lz,qz,mz,yR,yO,yM,yP,yN,kz,ph,zN,zH,ro,qs,ms,M,hL,vO,hN,hR,hF⟩:=R.o.ex;have tL:=hL.ok HP.o;have xX:=hL.pos;have sW:(k:Int)<(U:Int):=Yv
   have O:Hid (∀X,Zz wr X->Aa X (g0+1) (Yh B now x f tz kz.length yR pz z.length yO lz y.length yM)/\Aa X (q+1) (Xv ph qz qs.length yP mz ms.length yN zN zH ro)/\Jh q g0 W6 X/\(AW X X.heap.size tz pz lz kz z y/\Ab X X.heap.size qz qs/\Ab X X.heap.size mz ms)/\Ah X g0 (.slice da D.length dc) D):=fun X E=>⟨hN.below E,hR.below E,R.o.fk.below E tN,hF.get E,R.o.dr.below E⟩;have HL:=Yw (Za hL vO)
   have yD:=Yw tL;have xZ:Hid (Aj (.slice da D.length dc)≠some (g0+1)):=R.o.dn;have xI:=yC.o wr R.o.fk;have xD:=Yw (QY B now x f ta pa la tc z.length pc y.length lc A wr xI.2.1 tA sL sJ xY.o);rw[sE.o]at xD;obtain⟨x0,x1,x2,x3,x4,x5,x6⟩:=Aa.c7 xI.1 0 1 2 3 4 5 6;clear xI hL vO hN hR hF tL R xX;go_wp2_with fail;refine xD.Am ?_;clear xD x0 x1 x2 x3 x4 x5 x6;rintro e X0 ⟨rfl,zS⟩
   have yG:Hid (Zz wr X0):=zS;have yL:=yD.o.2;have HU:=Yw (PF B now x f tz pz lz yR yO yM kz z y ph zN zH ro qz mz yP yN qs ms X0 (O.o X0 zS).2.2.2.1.1 (K.o.1.sub yL) K.o.2.1 K.o.2.2.1 (K.o.2.2.2.1.sub yL) (fun k hk=>K.o.2.2.2.2 k (yL.subset hk)) (O.o X0 zS).2.2.2.1.2.1 (O.o X0 zS).2.2.2.1.2.2 ⟨by have:=yD.o.1.1.2.bz.nq;omega,by have:=yD.o.1.1.2.bz.nm;omega⟩)
   obtain⟨y0,y1,y2,y3,y4,y5,y6⟩:=Aa.c7 (O.o X0 zS).1 0 1 2 3 4 5 6;obtain⟨z0,z1,z2,z3,z4,z5⟩:=Aa.c6 (O.o X0 zS).2.1 0 1 2 3 4 5;clear zS yL;go_wp2_with fail;refine HU.Am ?_;clear HU y0 y1 y2 y3 y4 y5 y6 z0 z1 z2 z3 z4 z5;rintro e X1 ⟨o,T,P,L,Q,M',D',rs,rfl,hU,hC,zT⟩;cases hU with
   |bad h=>exact absurd yD.o.1 h
   |good _ r hr=>
   obtain⟨t1,zE,rfl⟩:=As hC.R.aj;obtain⟨p1,zC,rfl⟩:=As hC.R.pins;obtain⟨l1,zA,rfl⟩:=As hC.R.aq;obtain⟨q1,zF,rfl,_⟩:=hC.q.row;obtain⟨m1,zB,rfl,tF⟩:=hC.mr.row;obtain⟨d1,zP,rfl,vW⟩:=hC.dd.row;obtain⟨I,xR,tH,vX,vY⟩:=sD.o HL.o.1 hr;have sI:r.S.length<=1:=by rcases xR with⟨e,_⟩|⟨_,_,e,_⟩<;>rw[e]<;>simp
   have yU:Hid (Zz wr X1):=yG.o.trans (zT.mono yG.o.size);obtain⟨G,xN⟩:=Af (X1.alloc (.cells #[Ze,Zg B,Zg now,Zg x,Zg f,.slice t1 r.ks.length zE,.slice p1 z.length zC,.slice l1 y.length zA,Zg r.H,.slice q1 r.D.length zF,.slice m1 r.ms.length zB,Zg r.O,Zg r.M,Zg r.ro,.slice d1 r.S.length zP] 34))
   obtain⟨bX,zX,cX⟩:=AL (l:=[Ze,Zg B,Zg now,Zg x,Zg f,.slice t1 r.ks.length zE,.slice p1 z.length zC,.slice l1 y.length zA,Zg r.H,.slice q1 r.D.length zF,.slice m1 r.ms.length zB,Zg r.O,Zg r.M,Zg r.ro,.slice d1 r.S.length zP]) xN;have HC:=Yw hC
   have HY:Hid (∀X,Zz G X->Aa X X1.heap.size [Ze,Zg B,Zg now,Zg x,Zg f,.slice t1 r.ks.length zE,.slice p1 z.length zC,.slice l1 y.length zA,Zg r.H,.slice q1 r.D.length zF,.slice m1 r.ms.length zB,Zg r.O,Zg r.M,Zg r.ro,.slice d1 r.S.length zP]/\Ab X X.heap.size m1 r.ms/\Ab X X.heap.size d1 r.S/\Zz wr X/\∀V,Tn V X1 X):=fun X E=>by have S:Below X1.heap.size X1 X:=bX.trans (E.mono bX.size);exact⟨Aa.below cX E,Ab.mono (Ab.below tF S) S.size,Ab.mono (Ab.below vW S) S.size,yU.o.trans (S.mono yU.o.size),fun _=>Tn.of S⟩
   have zO:=Yw (Zn xR (Zn tH (Zn vX vY)));have vE:=Yw xN;have sR:wr.heap.size<=X0.heap.size:=yG.o.size;have sS:X0.heap.size<=X1.heap.size:=zT.size;clear xN bX zX cX hC tF vW xR tH vX vY hr zT yG yU yD;simp only[NZ];go_upto_region 16 with fail;rw[<-vE.o];clear vE;generalize X1.heap.size=qx at *
   obtain⟨x0,_⟩:=(HY.o G Ad).1 0 _ rfl
   go_upto_block 2 with fail
   clear x0;go_cut [8] (fun lv wx=>lv=Zg I/\Hid (Zz G wx))
   case first=>
    go_wp2
    go_loopw [8,12] (fun lv iv wx=>∃(j:Nat) (l:Int),j<=r.S.length/\iv=Zg j/\lv=Zg l/\Hid ((j=0->l=last)/\(j≠0->l=I)/\Zz G wx)) (fun _ iv _=>r.S.length -(intOf iv).toNat)
    case atStart=>exact⟨0,last,Nat.zero_le _,rfl,rfl,⟨fun _=>rfl,fun h=>absurd rfl h,Ad⟩⟩
    case round=>
     obtain⟨j,l,hj,rfl,rfl,J⟩:=hrel;obtain⟨F,_,zY,H,_⟩:=HY.o wr J.o.2.2;obtain⟨yT,_⟩:=F 14 _ rfl;by_cases hjl:j<r.S.length
     .obtain rfl:j=0:=Yv
      obtain rfl:l=last:=J.o.1 rfl;rcases zO.o.1 with⟨e,_⟩|⟨u,hu,e,tD,rD,rE⟩
      .rw[e]at hjl;simp at hjl
      obtain⟨db,vJ,yE,_,zK⟩:=zY.at hjl;subst yE;have c0:=zK 0 u.sum (by rw[e];rfl);rw[Nat.add_zero]at c0;obtain⟨hN,_,_,hF,_⟩:=O.o wr H;have xF:=Yw (SE B now x f tz pz lz yR z.length yO y.length yM kz u wr.drew hF.1.k (Zm (HL.o.1.ok HP.o).2.length_le tA) hu (((HL.o.1.ok HP.o).2.map _).nodup HP.o.bt.nd));obtain⟨y0,y1,y2,y3,y4,y5,y6⟩:=Aa.c7 hN 0 1 2 3 4 5 6;have yW:=Yw (Zn e tD)
      have sY:¬u.born<1:=Yv
      have sZ:¬l<=u.born:=Yv
      clear F zY H hN hF zK tD e;go_upto_region 21 with fail;go_cut [13] (fun v wx=>v=Zg u.born/\Hid (Zz G wx))
      case first=>
       go_region_with (first
        |(go_at_call 10;refine xF.Am ?_;rintro e2 X4 ⟨rfl,zI⟩))
       all_goals
        have C:Hid (Zz G X4):=J.o.2.2.trans ((Ad.drew.trans zI).mono J.o.2.2.size);clear xF y0 y1 y2 y3 y4 y5 y6 c0 yT zI;go_wp2_with fail;go_meet;exact⟨rfl,C⟩
      case rest=>
       clear xF y0 y1 y2 y3 y4 y5 y6 c0 yT;revert wc;rintro X4 ⟨rfl,C⟩;go_wp2;exact⟨⟨1,u.born,by rw[yW.o.1];simp,Yn,rfl,⟨fun h=>(by cases h),fun _=>yW.o.2.symm,C.o⟩⟩,by rw[yW.o.1];simp[intOf]⟩
     .have C:Hid (l=I/\Zz G wr):=⟨by
       rcases zO.o.1 with⟨e,e2⟩|⟨u,hu,e,_⟩
       .rw[e]at hj;simp at hj;rw[e2];exact J.o.1 hj
       .refine J.o.2.1 (fun h0=> ?_);rw[e,h0]at hjl;simp at hjl,J.o.2.2⟩
      clear F zY H;go_wp2;go_meet;exact⟨by rw[C.o.1],C.o.2⟩
   case rest=>
   revert wc;rintro X3 ⟨rfl,zU⟩;obtain⟨F,_,_,H,_⟩:=HY.o X3 zU.o;obtain⟨v8,_⟩:=F 8 _ rfl;obtain⟨z0,_⟩:=(O.o X3 H).2.1 0 _ rfl;clear F H;go_upto_region 25 with fail;go_cut [81] (fun v wx=>∃b:Bool,v=.bool b/\(b=true->r.H=2/\ph=1)/\wx=X3)
   case first=>
    by_cases h2:r.H=2
    .have e2:(r.H==2)=true:=by simp[h2]
     by_cases S:ph=1
     .have e1:(ph==1)=true:=by simp[S]
      have HE:=Yw (Zn h2 S);clear S h2;go_wp2;go_meet;exact⟨true,rfl,fun _=>HE.o,rfl⟩
     .have e1:(ph==1)=false:=by simp[S]
      clear S h2;go_wp2;go_meet;exact⟨false,rfl,(fun h=>by cases h),rfl⟩
    .have e2:(r.H==2)=false:=by simp[h2]
     clear h2;go_wp2;go_meet;exact⟨false,rfl,(fun h=>by cases h),rfl⟩
   case rest=>
   clear v8 z0;revert wc;rintro X3 ⟨b,rfl,vU,rfl⟩;have yV:=Yw vU;clear vU
   go_upto_if 81 with fail
   go_cut [81] (fun _ wx=>Hid (Zz G wx))
   case first=>
    cases b with
    |false=>go_wp2;go_meet;exact zU
    |true=>
     obtain⟨h2,S⟩:=yV.o rfl;obtain⟨tI,tG⟩:=zO.o.2.1 h2 S;have sB:=Yw tG;have rB:((r.ms.length:Int)==(lv.length:Int))=true:=by rw[tI];simp
     have sK:r.ms.length<=1048576:=Yv
     obtain⟨yS,_⟩:=(HY.o X3 zU.o).1 10 _ rfl;clear S h2 tI tG yV;go_wp2;clear yS
     go_loopw [14] (fun jv wx=>∃j:Nat,j<=lv.length/\jv=Zg j/\Hid (Zz G wx)) (fun jv _=>lv.length -(intOf jv).toNat)
     case atStart=>exact⟨0,Nat.zero_le _,rfl,zU⟩
     case round=>
      clear zU;obtain⟨j,hj,rfl,J⟩:=hrel;obtain⟨F,xO,_,H,_⟩:=HY.o wr J.o;by_cases hjl:j<lv.length
      .have yY:Hid (lv[j]∈r.ms):=sB.o _ (List.getElem_mem hjl);obtain⟨db,vJ,yE,_,zK⟩:=(yC.o wr (O.o wr H).2.2.1).2.2.1.at hjl;subst yE;have c0:=zK j _ (Zv hjl);obtain⟨yS,_⟩:=F 10 _ rfl;generalize lv[j]=s at *
       have zV:=Yw (Px m1 zB r.ms s wr.drew xO sK yY.o);clear F xO H zK;go_upto_region 31 with fail;go_cut [103] (fun v wx=>v=.bool false/\Hid (Zz G wx))
       case first=>
        go_region_with (first
         |(go_at_call 11;refine zV.Am ?_;rintro e2 X4 ⟨rfl,zI⟩))
        all_goals
         have C:Hid (Zz G X4):=J.o.trans ((Ad.drew.trans zI).mono J.o.size);clear zV c0 yS zI;go_wp2_with fail;go_meet;exact⟨rfl,C⟩
       case rest=>
        clear zV c0 yS;revert wc;rintro X4 ⟨rfl,C⟩;go_wp2;exact⟨⟨j+1,Yv,Yn,C⟩,Ys⟩
      .clear F xO H;go_wp2;go_meet;exact J
   case rest=>
   clear zU yV;revert wc;intro X4 C;obtain⟨F,_,zY,H,vT⟩:=HY.o X4 C.o;obtain⟨hN,hR,hK,_,hO⟩:=O.o X4 H;have sN:=H.size;have sM:=(yC.o wr (O.o wr Ad).2.2.1).2.2.2.2.2;have sH:=(O.o wr Ad).1.lt;have xK:=(O.o wr Ad).2.2.2.2;have tO:wr.heap.size<=qx/\qx<X4.heap.size:=⟨Yv,F.lt⟩
   obtain⟨va,vc,Y,yF,tK,zM,vZ⟩:=WX X4 g0 (.slice da D.length dc) D r.S d1 zP hO sI zY (by have:=HL.o.1.dl;omega) Yv;have zR:∀g∈(Aj (.slice da D.length dc)).toList,g0<=g/\g<wr.heap.size/\g≠g0+1:=fun g hg=>by
    have e:Aj (.slice da D.length dc)=some g:=by simpa using hg
    exact⟨(xK.V e).1,(xK.V e).2,fun h=>xZ.o (h▸e)⟩
   have xQ:Aa Y qx [Ze,Zg B,Zg now,Zg x,Zg f,.slice t1 r.ks.length zE,.slice p1 z.length zC,.slice l1 y.length zA,Zg r.H,.slice q1 r.D.length zF,.slice m1 r.ms.length zB,Zg r.O,Zg r.M,Zg r.ro,.slice d1 r.S.length zP]:=Aa.same F (zM.block qx tO.2 (fun e=>by have:=zR qx e;omega))
   have xJ:Aa Y (g0+1) (Yh B now x f tz kz.length yR pz z.length yO lz y.length yM):=Aa.same hN (zM.block _ Yv (fun e=>(zR _ e).2.2 rfl));have vR:Aa Y (q+1) (Xv ph qz qs.length yP mz ms.length yN zN zH ro):=Aa.same hR (zM.block _ Yv (fun e=>by have:=(zR _ e).1;omega))
   obtain⟨Z1,yI⟩:=Af (Y.setCells (g0+1) 0 ((Yg B now x f t1 r.ks.length zE p1 z.length zC l1 y.length zA):Array Value).toList);have zZ:Tn [g0+1] Y Z1:=by rw[yI];exact AF _ _ _ _
   have tR:Aa Z1 (g0+1) (Yh B now x f t1 r.ks.length zE p1 z.length zC l1 y.length zA):=by rw[yI];exact xJ.ar _ rfl
   have tV:Aa Z1 qx [Ze,Zg B,Zg now,Zg x,Zg f,.slice t1 r.ks.length zE,.slice p1 z.length zC,.slice l1 y.length zA,Zg r.H,.slice q1 r.D.length zF,.slice m1 r.ms.length zB,Zg r.O,Zg r.M,Zg r.ro,.slice d1 r.S.length zP]:=Aa.same xQ (zZ.block qx (by have:=zM.size;omega) Yt)
   have xW:Aa Z1 (q+1) (Xv ph qz qs.length yP mz ms.length yN zN zH ro):=Aa.same vR (zZ.block _ (by have:=zM.size;omega) Yt);obtain⟨N,yJ⟩:=Af (Z1.setCells (q+1) 0 ((Ye r.H q1 r.D.length zF m1 r.ms.length zB r.O r.M r.ro):Array Value).toList);have yQ:Tn [q+1] Z1 N:=by rw[yJ];exact AF _ _ _ _
   have tT:Aa N (q+1) (Xv r.H q1 r.D.length zF m1 r.ms.length zB r.O r.M r.ro):=by rw[yJ];exact xW.ar _ rfl
   have tS:Aa N (g0+1) (Yh B now x f t1 r.ks.length zE p1 z.length zC l1 y.length zA):=Aa.same tR (yQ.block _ (by have:=zM.size;have:=zZ.size;omega) Yt);have xL:Tn ((Aj (.slice da D.length dc)).toList++[g0+1,q+1]) X4 N:=((zM.mono (by intro b hb;exact List.mem_append.2 (.inl hb))).trans (zZ.mono Yu)).trans (yQ.mono Yu);have vM:Jh q g0 W6 N:=hK.J xL (fun b hb=>by
    rcases List.mem_append.1 hb with h|h
    .exact .inr (zR b h).1
    .simp at h;omega) tN
   have yH:∀g,Aj (.slice va (D++r.S).length vc)=some g->g≠g0+1/\g≠q+1:=fun g e=>by
    rcases vZ g e with h|h
    .have:=zR g (by simpa using h);omega
    .omega
   have vQ:Ah N g0 (.slice va (D++r.S).length vc) (D++r.S):=(tK.J zZ (fun g hg e=>(yH g hg).1 (by simpa using e))).J yQ (fun g hg e=>(yH g hg).2 (by simpa using e));have xB:Hid (Oo q (g0+2) N t1 p1 l1 q1 m1 r.ks z y r.D r.ms):=Oo.ans HC.o ((vT _).trans xL) (fun b hb=>by
    rcases List.mem_append.1 hb with h|h
    .have:=zR b h;omega
    .simp at h;omega) Yv
   have R:Hid (Aa N (g0+1) (Yh B now x f t1 r.ks.length zE p1 z.length zC l1 y.length zA)/\Aa N (q+1) (Xv r.H q1 r.D.length zF m1 r.ms.length zB r.O r.M r.ro)/\Jh q g0 W6 N/\Ah N g0 (.slice va (D++r.S).length vc) (D++r.S)/\Aj (.slice va (D++r.S).length vc)≠some (g0+1)):=⟨tS,tT,vM,vQ,fun e=>(yH _ e).1 rfl⟩;have xC:Hid (Y.there (g0+1) 0 7/\Z1.there (q+1) 0 6):=⟨xJ.there,xW.there⟩;have vF:=Yw yI
   have vG:=Yw yJ;have vH:=Yw xQ;have vI:=Yw tV;obtain⟨yT,_⟩:=F 14 _ rfl;have sX:(D++r.S).length<=601:=by have:=HL.o.1.dl;rw[List.length_append];omega
   generalize D++r.S=D2 at *
   clear yI yJ zZ yQ tR tS xW tT tV xQ xJ vR xL vM yH vQ zR tK zM vZ xK sH sM sN hN hR hK hO F zY H vT tO C HC O HY xZ;go_upto_region 34 with(at_builtin;refine wpList_append_run rfl _ _ 29 29 rfl rfl rfl yF ?_);clear yF yT;obtain⟨s0,s1,s2,s3,s4,s5,s6⟩:=Aa.c7 vH.o 1 2 3 4 5 6 7
   go_upto_region 35 with(refine wpList_store_mid rfl 27 _ _ rfl (g0+1) 0 (Yg B now x f t1 r.ks.length zE p1 z.length zC l1 y.length zA) rfl rfl xC.o.1 Yr (by simp[Value.oneCell']) ?_);rw[<-vF.o];clear vF s0 s1 s2 s3 s4 s5 s6 vH;obtain⟨s0,s1,s2,s3,s4,s5⟩:=Aa.c6 vI.o 8 9 10 11 12 13
   go_upto_region 36 with(refine wpList_store_mid rfl 31 _ _ rfl (q+1) 0 (Ye r.H q1 r.D.length zF m1 r.ms.length zB r.O r.M r.ro) rfl rfl xC.o.2 Yr (by simp[Value.oneCell']) ?_);rw[<-vG.o];clear vG s0 s1 s2 s3 s4 s5 vI xC;obtain⟨s0,_⟩:=R.o.2.1 0 _ rfl;by_cases h0:r.H=0
   .obtain⟨xU,xH,vL,tC⟩:=zO.o.2.2.1 h0;have e0:(r.H==0)=true:=by simp[h0]
    have e1:(r.ro==1)=true:=by simp[xU]
    have e2:((D2.length:Int)==(wv.length:Int))=true:=by rw[xH];simp
    have f0:(r.H !=0)=false:=by simp[h0]
    have f1:(r.ro !=1)=false:=by simp[xU]
    have f2:((D2.length:Int) !=(wv.length:Int))=false:=by rw[xH];simp
    have sA:=Yw tC;have tX:=Yw vL;have rF:wv.length<=600:=Yv
    obtain⟨s5,_⟩:=R.o.2.1 5 _ rfl;obtain⟨_,_,_,vS,vK,_⟩:=yC.o N R.o.2.2.1;have xG:=Yw (Zn vS vK);have tY:Hid (Ab N N.heap.size va D2):=by obtain⟨_,_,e,h⟩:=R.o.2.2.2.1.row;cases e;exact h
    clear h0 xU xH vL tC zO vS vK yC HL xB;go_wp2
    go_loopw [15] (fun jv wx=>∃j:Nat,j<=wv.length/\jv=Zg j/\Hid (Zz N wx)) (fun jv _=>wv.length -(intOf jv).toNat)
    case atStart=>exact⟨0,Nat.zero_le _,rfl,Ad⟩
    case round=>
     obtain⟨j,hj,rfl,J⟩:=hrel;by_cases hjl:j<wv.length
     .have yY:Hid (wv[j]∈D2):=tX.o _ (List.getElem_mem hjl);obtain⟨db,vJ,yE,_,zK⟩:=(xG.o.1.L J.o).at hjl;subst yE;have c0:=zK j _ (Zv hjl);generalize wv[j]=s at *
      have zV:=Yw (Px va vc D2 s wr (tY.o.L J.o) Yv yY.o);clear zK;go_wp2_with fail;refine zV.Am ?_;clear zV c0;rintro e X5 ⟨rfl,zJ⟩;have zG:Hid (Zz N X5):=J.o.trans (zJ.mono J.o.size);clear zJ;go_wp2;exact⟨⟨j+1,Yv,Yn,zG⟩,Ys⟩
     .obtain⟨n4,_⟩:=(R.o.1.below J.o) 4 _ rfl;have tW:Hid (Zz w wr):=xG.o.2.trans (J.o.mono xG.o.2.size);have e4:((r.ks.length:Int)==(lv.length:Int))=true:=by rw[sA.o];simp
      go_wp2;go_ret;exact⟨by first|rfl|rw[e4],tW.o⟩
   .have e0:(r.H==0)=false:=by simp[h0]
    obtain⟨M2,sT,vN⟩:=zO.o.2.2.2 h0;have tZ:Hid (Wo q g0 W6 B now x f A z y U (k+1) I va vc D2 N):=⟨⟨t1,p1,l1,q1,m1,zE,zC,zA,zF,zB,r.ks,r.H,r.O,r.M,r.ro,r.D,r.ms,M2,vN,by have:=HL.o.2;omega,R.o.1,R.o.2.1,xB.o⟩,R.o.2.2.1,R.o.2.2.2.1,R.o.2.2.2.2⟩;clear h0 vN zO HL xB R;go_wp2;exact⟨⟨k+1,I,va,vc,D2,rfl,rfl,Yn,tZ⟩,Ys⟩
end Go.Proofs.YtcfjcdpkpiidkaaGreat
