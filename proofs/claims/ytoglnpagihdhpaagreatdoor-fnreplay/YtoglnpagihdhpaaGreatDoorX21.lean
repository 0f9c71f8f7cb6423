import Derived.Test.YtoglnpagihdhpaaGreatDoorX19
set_option maxRecDepth 100000
set_option maxHeartbeats 16000000
namespace Go.Proofs.YtoglnpagihdhpaaGreatDoor
open ChangeShapes WideShapes ChangeAt RowKit _root_.Go.Proofs.Tryz
variable{w d:Zh}{a:Zk}{V:List Nat}
theorem Qs(Q now d c:Int)(b F:Nat)(j:List (Kd×Value))(K:List Pd)(J:List Ld)(O M:Zk)(P N:Nat)(D u o L:Int)(xa G:Zk)(V cy:Nat)(s:Zi)(f ms:Zl)(w:Zh)(yU:D≠0)(hz:Bi w b 0 j)(zH:b<w.heap.size)(hq:Ad w w.heap.size xa (s::f))(hm:Ad w w.heap.size G ms)(xE:Fg G ms.length cy)(vF:Lt w G)(tC:f.length+1<=V)(tI:j.length<=600)(yM:∀z∈j,z.1.B.length<=30)(tG:f.length<=1048576)(tF:ms.length<=100000):
 Calls prog 128 #[.agg (Yg Q now d c (some ⟨b,0,none⟩) j.length F O K.length P M J.length N),.agg (Ye D xa (f.length+1) V G ms.length cy u o L)] w fun e w'=>LU w w' e Q now d c (.slice O K.length P) (.slice M J.length N) (j.map (·.1)) K J D u o L (s::f) ms b xa G j:=by
 have vY:(D==0)=false:=by simpa using yU
 obtain⟨x,E,rfl,xG,xF⟩:=hq.at (k:=0) (by simp);obtain⟨o1,vS,xZ⟩:∃o1,((if V=1 then some ⟨x,E,none⟩else some ⟨x,E+1,none⟩:Zk)=some ⟨x,o1,none⟩)/\∀i t,f[i]?=some t->w.cell? (Zd x (o1+i))=some (.string t):=by
  by_cases h1c:V=1
  .have:f=[]:=List.eq_nil_of_length_eq_zero (by omega);subst this;exact⟨E,if_pos h1c,fun i t h=>by simp at h⟩
  .refine⟨E+1,if_neg h1c,fun i t h=> ?_⟩;have:=xF (i+1) t (by simpa using h);rw[show E+(i+1)=E+1+i by omega]at this;exact this
 obtain⟨W,hW⟩:=Af (((w.alloc (.cells (Yg Q now d c (some ⟨b,0,none⟩) j.length F O K.length P M J.length N) 30)).alloc (.cells (Ye D (some ⟨x,E,none⟩) (f.length+1) V G ms.length cy u o L) 49)).alloc (.cells Xw 211));have zG:Below w.heap.size w W:=by rw[hW];exact((Zy).alloc (by simp) _).alloc (by simp;omega) _
 have vH:W.heap.size=w.heap.size+3:=by rw[hW];simp
 have x2:Aa W (w.heap.size+2) EV:=by have h1:=Aa.new ((w.alloc (.cells (Yg Q now d c (some ⟨b,0,none⟩) j.length F O K.length P M J.length N) 30)).alloc (.cells (Ye D (some ⟨x,E,none⟩) (f.length+1) V G ms.length cy u o L) 49)) EV 211;rw[hW];simpa [EV]using h1
 have x1:Aa W (w.heap.size+1) (Xv D (some ⟨x,E,none⟩) (f.length+1) V G ms.length cy u o L):=by have h1:=Aa.new (w.alloc (.cells (Yg Q now d c (some ⟨b,0,none⟩) j.length F O K.length P M J.length N) 30)) (Xv D (some ⟨x,E,none⟩) (f.length+1) V G ms.length cy u o L) 49;rw[World.size_alloc]at h1;rw[hW];exact Aa.below h1 (Zy)
 have x0:Aa W w.heap.size (Yh Q now d c (some ⟨b,0,none⟩) j.length F O K.length P M J.length N):=by have h1:=Aa.new w (Yh Q now d c (some ⟨b,0,none⟩) j.length F O K.length P M J.length N) 30;rw[hW];exact Aa.below (Aa.below h1 (Zy)) (Zy)
 have HW:=Yw hW;have vZ:Hid (W.heap.size=w.heap.size+3):=vH;have yA:w.heap.size+3<=W.heap.size:=by omega
 clear hW vH;have U:Hid (∀X,Below (w.heap.size+3) W X->Aa X w.heap.size (Yh Q now d c (some ⟨b,0,none⟩) j.length F O K.length P M J.length N)/\Aa X (w.heap.size+1) (Xv D (some ⟨x,E,none⟩) (f.length+1) V G ms.length cy u o L)/\Aa X (w.heap.size+2) EV):=fun X hX=>⟨Aa.same x0 (hX.block _ (by omega)),Aa.same x1 (hX.block _ (by omega)),Aa.same x2 (hX.block _ (by omega))⟩
 have c0:W.cell? (Zd x E)=some (.string s):=(zG.cell (p:=⟨x,E,none⟩) xG).trans (by simpa using xF 0 s rfl);obtain⟨xn,H,w1,vA,xV,yE⟩:=Ub W (some ⟨x,o1,none⟩) (V -1) f (.inr ⟨x,o1,rfl,Zr xG zG.size,fun i t h=>(zG.cell (p:=⟨x,o1+i,none⟩) xG).trans (xZ i t h)⟩) (fun e=>by cases e) (by omega) 23
 have rA:(W.alloc (.cells #[] 9)).cell? (Zd (w.heap.size+1) 1)=some (.slice (some ⟨x,E,none⟩) (f.length+1) V):=((Aa.below x1 (Zy)) 1 _ rfl).1;have zP:=Ey Q now d c (some ⟨b,0,none⟩) F (.slice O K.length P) (.slice M J.length N) (j.map (·.1)) s w1 w.heap.size (Bu.below (hz.dq zH) (zG.trans (yE.mono zG.size))) (Zm zG.size yE.size) (by rw[List.length_map];omega);rw[List.length_map]at zP
 have HF:=Yw zP;have T:=Yw (Za hz (Za hq hm));have yC:Hid (Below (w.heap.size+3) W w1):=yE.mono yA;have vM:Hid (Zz w W):=zG;have n:Hid (Aj w1 (w.heap.size+3) (Yz xn f.length H) f):=xV.mono yA;have yH:Hid (∀z∈j,z.1.B.length<=30):=yM;have xH:w.heap.size+3<=w1.heap.size:=Zm yA yE.size;have yR:Below (w.heap.size+3) W W:=Below.refl _ _;obtain⟨i0,i1,i2,i3,i4,i5,i6⟩:=FR (AQ (U.o _ yR).1)
 obtain⟨⟨r0,f0⟩,⟨r1,f1⟩,⟨r2,f2⟩,⟨r3,f3⟩,⟨r4,f4⟩,⟨r5,f5⟩⟩:=r6 (U.o _ yR).2.1;obtain⟨⟨u0,j0⟩,⟨u1,j1⟩,⟨u2,j2⟩,⟨u3,j3⟩,⟨u4,j4⟩,⟨u5,j5⟩,⟨u6,j6⟩,⟨u7,j7⟩,⟨u8,j8⟩,⟨u9,j9⟩,⟨Z,zS⟩,⟨zA,zT⟩,⟨zB,zU⟩,⟨zC,zV⟩,zE,zW⟩:=IA (U.o _ yR).2.2;clear hz hq hm x0 x1 x2 zG xV yE xF xZ yM zP;go_enter func128,ntmps128;go_upto_region 1 with fail;rw[<-HW.o];clear HW
 go_upto_region 10 with(at_builtin;refine wpList_append_run rfl _ _ 23 23 rfl rfl rfl vA ?_);clear i0 i1 i2 i3 i4 i5 i6 r0 r1 r2 r3 r4 r5 f0 f1 f2 f3 f4 f5 u0 j0 u1 j1 u2 j2 u3 j3 u4 j4 u5 j5 u6 j6 u7 j7 u8 j8 u9 j9 Z zS zA zT zB zU zC zV zE zW vA yR c0 vS rA;obtain⟨i0,i1,i2,i3,i4,i5,i6⟩:=FR (AQ (U.o _ yC.o).1);obtain⟨⟨r0,f0⟩,⟨r1,f1⟩,⟨r2,f2⟩,⟨r3,f3⟩,⟨r4,f4⟩,⟨r5,f5⟩⟩:=r6 (U.o _ yC.o).2.1
 obtain⟨⟨u0,j0⟩,⟨u1,j1⟩,⟨u2,j2⟩,⟨u3,j3⟩,⟨u4,j4⟩,⟨u5,j5⟩,⟨u6,j6⟩,⟨u7,j7⟩,⟨u8,j8⟩,⟨u9,j9⟩,⟨Z,zS⟩,⟨zA,zT⟩,⟨zB,zU⟩,⟨zC,zV⟩,zE,zW⟩:=IA (U.o _ yC.o).2.2;go_wp2_with fail;refine HF.Ah ?_;rintro e C ⟨rfl,yS⟩;have zK:Hid (Below (w.heap.size+3) W C):=yC.o.trans (yS.mono xH);have xP:Hid (Aj C (w.heap.size+3) (Yz xn f.length H) f):=n.o.below yS;have xI:w.heap.size+3<=C.heap.size:=Zm xH yS.size
 have S:Hid (Zz w C):=vM.o.trans (zK.o.mono (by omega));clear i0 i1 i2 i3 i4 i5 i6 r0 r1 r2 r3 r4 r5 f0 f1 f2 f3 f4 f5 u0 j0 u1 j1 u2 j2 u3 j3 u4 j4 u5 j5 u6 j6 u7 j7 u8 j8 u9 j9 Z zS zA zT zB zU zC zV zE zW n yC yS HF xH;have n:=Yw xP.o;clear xP;obtain⟨i0,i1,i2,i3,i4,i5,i6⟩:=FR (AQ (U.o _ zK.o).1);obtain⟨⟨r0,f0⟩,⟨r1,f1⟩,⟨r2,f2⟩,⟨r3,f3⟩,⟨r4,f4⟩,⟨r5,f5⟩⟩:=r6 (U.o _ zK.o).2.1
 obtain⟨⟨u0,j0⟩,⟨u1,j1⟩,⟨u2,j2⟩,⟨u3,j3⟩,⟨u4,j4⟩,⟨u5,j5⟩,⟨u6,j6⟩,⟨u7,j7⟩,⟨u8,j8⟩,⟨u9,j9⟩,⟨Z,zS⟩,⟨zA,zT⟩,⟨zB,zU⟩,⟨zC,zV⟩,zE,zW⟩:=IA (U.o _ zK.o).2.2;rcases Eg (j.map (·.1)) s with⟨yG,xY⟩|⟨fi,fu,yG,xW,zP⟩
 .rw[yG];have HN:Hid (¬Au (j.map (·.1)) s):=xY;clear xY yG;go_wp2;refine bodyPost_ret (v:=.agg #[Ze,Zg Q,Zg now,Zg d,Zg c,Yz b j.length F,.slice O K.length P,.slice M J.length N,Zg D,Yz xn f.length H,.slice G ms.length cy,Zg u,Zg o,Zg L,Zb]) (by simp[results,results128,go_sem,u0,u1,u2,u3,u4,u5,u6,u7,u8,u9,Z,zA,zB,zC,zE]) rfl ?_
  have hT:=(Bl C (w.heap.size+1) 1 (Yz xn f.length H)).mono (V':=[w.heap.size+1,w.heap.size+2]) (by simp);refine LU.from (X:=C) [w.heap.size+1,w.heap.size+2] ?_ (hT.trans ((JY _ (w.heap.size+2) _ _ _ _ _ _ _ _ _ _ _ _ _ _ _).mono (by simp)));intro wf A;have r:=S.o.trans (A.below S.o.size (by simp));obtain⟨a,cc,e1,hS⟩:=(n.o.K A (fun g m e=>by have:=(n.o.Z m).1;simp at e;omega)).row;cases e1
  have yD:=Ad.N T.o.2.2 r;exact⟨⟨⟨j.map (·.1),D,u,o,L,f,ms,[]⟩,b,F,j,_,_,none,_,_,0,rfl,.mark yU s f _ _ rfl (.inl ⟨.inl HN.o,rfl,rfl⟩),rfl,T.o.1.below r zH,Zr zH r.size,hS,yD,.inl rfl,⟨(fun p e=>by cases e;exact .inl rfl),Dl.own n.o (by omega),(fun p e=> .inr (.inr (.inl ⟨p,e,rfl⟩))),Dl.no⟩,fun z hz=>hz,n.o.cap,xE,n.o.ix.mono A.size,vF.mono r.size⟩,r⟩
 .rw[yG];have xL:decide ((fi:Int)<0)=false:=by simp
  have vR:decide ((0:Int)<=fi)=true:=by simp
  have yZ:Hid ((j.map (·.1))[fi]?=some fu/\fu.sum=s):=⟨xW,zP⟩;have HC:=Yw (Fw G cy ms s C C.heap.size (Ad.N T.o.2.2 S.o) (by omega));clear yG xW zP;go_wp2_with fail;refine HC.Ah ?_;rintro e w9 ⟨rfl,vE⟩;rw[vE];clear vE HC w9;by_cases I:s∈ms
  .have R:ms.any (fun x=>decide (x=s))=true:=List.any_eq_true.2 ⟨s,I,by simp⟩;rw[R];clear R;go_wp2;refine bodyPost_ret (v:=.agg #[Ze,Zg Q,Zg now,Zg d,Zg c,Yz b j.length F,.slice O K.length P,.slice M J.length N,Zg D,Yz xn f.length H,.slice G ms.length cy,Zg u,Zg o,Zg L,Zb]) (by simp[results,results128,go_sem,u0,u1,u2,u3,u4,u5,u6,u7,u8,u9,Z,zA,zB,zC,zE]) rfl ?_
   have hT:=(Bl C (w.heap.size+1) 1 (Yz xn f.length H)).mono (V':=[w.heap.size+1,w.heap.size+2]) (by simp);refine LU.from (X:=C) [w.heap.size+1,w.heap.size+2] ?_ (hT.trans ((JY _ (w.heap.size+2) _ _ _ _ _ _ _ _ _ _ _ _ _ _ _).mono (by simp)));intro wf A;have r:=S.o.trans (A.below S.o.size (by simp));obtain⟨a,cc,e1,hS⟩:=(n.o.K A (fun g m e=>by have:=(n.o.Z m).1;simp at e;omega)).row;cases e1
   have yD:=Ad.N T.o.2.2 r;exact⟨⟨⟨j.map (·.1),D,u,o,L,f,ms,[]⟩,b,F,j,_,_,none,_,_,0,rfl,.mark yU s f _ _ rfl (.inl ⟨.inr I,rfl,rfl⟩),rfl,T.o.1.below r zH,Zr zH r.size,hS,yD,.inl rfl,⟨(fun p e=>by cases e;exact .inl rfl),Dl.own n.o (by omega),(fun p e=> .inr (.inr (.inl ⟨p,e,rfl⟩))),Dl.no⟩,fun z hz=>hz,n.o.cap,xE,n.o.ix.mono A.size,vF.mono r.size⟩,r⟩
  .have R:ms.any (fun x=>decide (x=s))=false:=by simp;exact fun x hx e=>I (e▸hx)
   rw[R];have xK:Hid (s∉ms):=I;clear R I;obtain⟨y2,tB,w3,vC,xC,yF⟩:=Ub C G cy ms (Ad.N T.o.2.2 S.o) xE.2 (by omega) 23;have bA:Below w3.heap.size w3 (w3.alloc (.cells #[.string s] 9)):=Zy;obtain⟨M',w4,vD,yQ,xX,vT⟩:=Kt (w3.alloc (.cells #[.string s] 9)) C.heap.size _ ms (xC.below bA) ⟨w3.heap.size,0,none⟩ 1 s (by simp[go_sem]) (by omega) (by have:=yF.size;simp;omega) 23;obtain⟨y,l,xU,_⟩:=yQ.row
   rw[List.length_append,List.length_cons,List.length_nil,Nat.zero_add]at xU;subst xU;have zM:Below C.heap.size C w4:=(yF.trans (bA.mono yF.size)).grown xX (by have:=yF.size;simp;omega) (fun k hk=>((xC.below bA).Z hk).1);have xB:Hid (Below (w.heap.size+3) W w4):=zK.o.trans (zM.mono xI);have xA:Hid (Aj w4 (w.heap.size+3) (Yz xn f.length H) f):=n.o.below zM
   have yL:∀g,Ai (Yz xn f.length H)=some g->g<C.heap.size:=fun g m=>(n.o.Z m).2;have zZ:∀g,Ai (.slice y (ms.length+1) l)=some g->C.heap.size<=g:=fun g m=>(yQ.Z m).1;obtain⟨X,hX⟩:=Af (w4.setCell (Zd (w.heap.size+1) 2) (.slice y (ms.length+1) l));have zN:Tn [w.heap.size+1] w4 X:=by rw[hX];exact Bl _ _ _ _
   have yV:Hid (Aj X (w.heap.size+3) (Yz xn f.length H) f/\Aj X (w.heap.size+3) (.slice y (ms.length+1) l) (ms++[s])/\(∀g,Ai (Yz xn f.length H)=some g->Ai (.slice y (ms.length+1) l)≠some g)):=
    ⟨xA.o.K zN (fun g m e=>by have:=(xA.o.Z m).1;simp at e;omega),(yQ.K zN (fun g m e=>by have:=zZ g m;simp at e;omega)).mono xI,fun g m yT=>by have:=yL g m;have:=zZ g yT;omega⟩
   have yB:Hid (∀Y,Below (w.heap.size+3) X Y->Aa Y w.heap.size (Yh Q now d c (some ⟨b,0,none⟩) j.length F O K.length P M J.length N)/\Aa Y (w.heap.size+1) (Xv D (some ⟨x,E,none⟩) (f.length+1) V y (ms.length+1) l u o L)/\Aa Y (w.heap.size+2) EV):=fun Y hY=>by
    have h4:=U.o _ xB.o;have tE:w.heap.size+3<=w4.heap.size:=Zm xI zM.size;have e0:Aa X w.heap.size (Yh Q now d c (some ⟨b,0,none⟩) j.length F O K.length P M J.length N):=Aa.same h4.1 (zN.block _ (by omega) (by simp));have e2:Aa X (w.heap.size+2) EV:=Aa.same h4.2.2 (zN.block _ (by omega) (by simp))
    have e1:Aa X (w.heap.size+1) (Xv D (some ⟨x,E,none⟩) (f.length+1) V y (ms.length+1) l u o L):=by rw[hX];exact h4.2.1.set 2 _
    exact⟨Aa.same e0 (hY.block _ (by omega)),Aa.same e1 (hY.block _ (by omega)),Aa.same e2 (hY.block _ (by omega))⟩
   have yY:Hid (Zz w X):=(S.o.trans (zM.mono S.o.size)).trans (zN.below (Zm S.o.size zM.size) (by simp));obtain⟨⟨n0,m0⟩,⟨n1,m1⟩,⟨n2,m2⟩,⟨n3,m3⟩,⟨n4,m4⟩,⟨n5,m5⟩⟩:=r6 (U.o _ xB.o).2.1;have xR:=Yw hX;have vI:w.heap.size+3<=X.heap.size:=by have:=zN.size;have:=zM.size;omega
   have rB:(C.alloc (.cells #[] 9)).cell? (Zd (w.heap.size+1) 2)=some (.slice G ms.length cy):=((Aa.below (U.o _ zK.o).2.1 (Zy)) 2 _ rfl).1;clear hX zN xA yL zZ zM bA xC yQ xX vT yF;go_upto_region 13 with(first
    |(at_builtin;refine wpList_append_run rfl _ _ 23 23 rfl rfl rfl vC ?_)
    |(at_builtin;refine wpList_append_run rfl _ _ 23 23 rfl rfl rfl vD ?_))
   clear rB vC vD i0 i1 i2 i3 i4 i5 i6 r0 r1 r2 r3 r4 r5 f0 f1 f2 f3 f4 f5 u0 j0 u1 j1 u2 j2 u3 j3 u4 j4 u5 j5 u6 j6 u7 j7 u8 j8 u9 j9 Z zS zA zT zB zU zC zV zE zW;rw[<-xR.o];clear xR n0 n1 n2 n3 n4 n5 m0 m1 m2 m3 m4 m5 xB U zK n S;obtain⟨z,zR,vJ⟩:∃z,j[fi]?=some z/\z.1=fu:=by have:=yZ.o.1;rw[List.getElem?_map]at this;obtain⟨z,h1,h2⟩:=Option.map_eq_some_iff.1 this;exact⟨z,h1,h2⟩
   have vX:fi<j.length:=(Zw zR).1;have tH:z.1.B.length<=30:=yH.o z (Zs zR);obtain⟨⟨_,_,_,vG⟩,ad,rc,xJ,vW⟩:=(T.o.1.below yY.o zH) fi z zR;rw[xJ,Nat.zero_add]at vG;have vO:Hid (∀Y,Below (w.heap.size+3) X Y->Ad Y Y.heap.size (some ad) z.1.B):=fun Y hY=>Ad.N (w:=w) (by
    obtain⟨_,tA,tJ,yN,xN⟩:=T.o.1 fi z zR;rw[xJ]at yN;cases yN;exact xN) (yY.o.trans (hY.mono (by omega)))
   have xQ:Hid (z.1∈j.map (·.1)/\z.1.sum=s):=⟨List.mem_map.2 ⟨z,Zs zR,rfl⟩,by rw[vJ];exact yZ.o.2⟩;have yJ:Below (w.heap.size+3) X X:=Below.refl _ _;obtain⟨i0,i1,i2,i3,i4,i5,i6⟩:=FR (AQ (yB.o _ yJ).1);clear xJ vW zR vJ yZ yH vR xL
   have vN:Hid (∀Y v,Aj Y (w.heap.size+3) (.slice y (ms.length+1) l) (ms++[s])->Calls prog 103 #[.slice y (ms.length+1) l,.string v] Y fun e w'=>e=.returned (.bool ((ms++[s]).any (fun x=>decide (x=v))))/\w'=Y):=fun Y v hY=>by obtain⟨a2,c2,e2,vU⟩:=hY.row;rw[List.length_append,List.length_cons,List.length_nil,Nat.zero_add]at e2;cases e2;have:=Fw y l (ms++[s]) v Y Y.heap.size vU (by rw[List.length_append];simp;omega);rw[List.length_append,List.length_cons,List.length_nil,Nat.zero_add]at this;exact this
   go_wp2
   go_loopw [6,9] (fun v i wr=>∃(k:Nat) (Qk:Value),k<=z.1.B.length/\i=Zg k/\v=Qk/\Hid (Aj wr (w.heap.size+3) Qk (f++fresh (ms++[s]) (z.1.B.take k))/\Aj wr (w.heap.size+3) (.slice y (ms.length+1) l) (ms++[s])/\(∀g,Ai Qk=some g->Ai (.slice y (ms.length+1) l)≠some g)/\Below (w.heap.size+3) X wr)) (fun _ i _=>z.1.B.length -(intOf i).toNat)
   case atStart=>exact⟨0,_,Nat.zero_le _,rfl,rfl,by simpa [fresh]using yV.o.1,yV.o.2.1,yV.o.2.2,yJ⟩
   case round=>
    clear yV i0 i1 i2 i3 i4 i5 i6 vG;obtain⟨k,Qk,hk,rfl,hv,B⟩:=hrel;have vV:=hv.symm;subst vV;clear hv;by_cases hlt:k<z.1.B.length
    .obtain⟨rb,vL,ha,hb,hc⟩:=(vO.o _ B.o.2.2.2).at hlt;cases ha;have HG:Hid (z.1.B[k]?=some z.1.B[k]):=Zv hlt;have c0:=hc k _ HG.o;have xO:=Yw (Sm (ms:=ms++[s]) HG.o);have vQ:(f++fresh (ms++[s]) (z.1.B.take k)).length<=1048606:=by have:(fresh (ms++[s]) (z.1.B.take k)).length<=(z.1.B.take k).length:=List.length_filter_le _ _;simp at this |-;omega
     clear hc;generalize z.1.B[k]=v at *
     generalize hO:f++fresh (ms++[s]) (z.1.B.take k)=qk at *
     have HO:=Yw hO;clear hO;obtain⟨⟨_,_⟩,⟨_,_⟩,⟨r2,_⟩,_⟩:=r6 (yB.o _ B.o.2.2.2).2.1;have S0:wr.drew.cell? (Zd (w.heap.size+1) 2)=some (.slice y (ms.length+1) l)/\wr.drew.cell? (Zd rb (vL+k))=some (.string v):=⟨r2,c0⟩;have HD:Hid (Aj wr.drew (w.heap.size+3) (.slice y (ms.length+1) l) (ms++[s])):=B.o.2.1.below (Ae.drew);have tD:(k:Int)<z.1.B.length:=by omega
     obtain⟨bb,xD⟩:∃bb,(ms++[s]).any (fun x=>decide (x=v))=bb:=⟨_,rfl⟩;have zF:=vN.o wr.drew v HD.o;rw[xD]at zF;have zO:=Yw zF;have yO:Hid ((ms++[s]).any (fun x=>decide (x=v))=bb):=xD;clear r2 c0 xD zF;go_upto_region 17 with fail;go_region_held3 (fun Y=>Y.cell? (Zd (w.heap.size+1) 2)=some (.slice y (ms.length+1) l)/\Y.cell? (Zd rb (vL+k))=some (.string v))
      (first|with_reducible exact S0)
      (first
        |(go_at_call 103;refine zO.Ah ?_;rintro e zI ⟨rfl,xM⟩;subst xM))
     have bD:Below wr.heap.size wr wr.drew:=Ae.drew;have zY:Hid (Aj wr.drew (w.heap.size+3) Qk qk):=B.o.1.below bD;have zX:Hid (Below (w.heap.size+3) X wr.drew):=B.o.2.2.2.drew;have yX:=Yw B.o.2.2.1;have vK:w.heap.size+3<=wr.drew.heap.size:=Zm vI zX.o.size;obtain⟨_,c0⟩:=S0;clear B bD zO;generalize wr.drew=zI at *
     cases bb with
     |true=>
      have I:v∈ms++[s]:=by obtain⟨x,hx,e⟩:=List.any_eq_true.1 yO.o;simp at e;exact e▸hx
      have HE:Hid (f++fresh (ms++[s]) (z.1.B.take (k+1))=qk):=by show _=_;rw[xO.o.1 I];exact HO.o
      clear yO I c0;go_wp2;exact⟨⟨k+1,Qk,by omega,by go_num,rfl,⟨by rw[HE.o];exact zY.o,HD.o,yX.o,zX.o⟩⟩,by simp[intOf];omega⟩
     |false=>
      have I:¬v∈ms++[s]:=fun e=>by have:=List.any_eq_false.1 yO.o v e;simp at this
      have HE:Hid (f++fresh (ms++[s]) (z.1.B.take (k+1))=qk++[v]):=by show _=_;rw[xO.o.2 I,<-List.append_assoc,HO.o]
      have bA:Below zI.heap.size zI (zI.alloc (.cells #[.string v] 9)):=Zy;obtain⟨Q',yW,hr,yI,zJ,yK⟩:=Kt (zI.alloc (.cells #[.string v] 9)) (w.heap.size+3) Qk qk (zY.o.below bA) ⟨zI.heap.size,0,none⟩ 1 v (by simp[go_sem]) (by omega) (by simp;omega) 23;have xS:Below (w.heap.size+3) zI yW:=(bA.mono vK).grown zJ (by simp;omega) (fun q e=>(zY.o.Z e).1)
      have xT:∀g,Ai (.slice y (ms.length+1) l)=some g->g<zI.heap.size:=fun g m=>(HD.o.Z m).2;have yP:Hid (Aj yW (w.heap.size+3) Q' (qk++[v])/\Aj yW (w.heap.size+3) (.slice y (ms.length+1) l) (ms++[s])/\(∀g,Ai Q'=some g->Ai (.slice y (ms.length+1) l)≠some g)/\Below (w.heap.size+3) X yW):=by
       refine⟨yI,(HD.o.below bA).stays zJ.size (fun g m=>zJ.block g (by have:=xT g m;simp;omega) (fun e=>yX.o g e.symm m)),fun g m yT=> ?_,zX.o.trans xS⟩;rcases yK with e|e
       .exact yX.o g (e▸m) yT
       .rw[e]at m;cases m;have:=xT _ yT;simp only[World.size_alloc]at this;omega
      clear yO I yI zJ yK xS bA;go_wp2_with (at_builtin;refine wpList_append_run rfl _ _ 23 23 rfl rfl rfl hr ?_);clear hr;go_wp2;exact⟨⟨k+1,Q',by omega,by go_num,rfl,⟨by rw[HE.o];exact yP.o.1,yP.o.2.1,yP.o.2.2.1,yP.o.2.2.2⟩⟩,by simp[intOf];omega⟩
    .obtain rfl:k=z.1.B.length:=by omega
     have hE:=B.o.1;rw[Zt (Zx)]at hE;have HE:=Yw hE;obtain⟨qa,qc,vP,_⟩:=hE.row;have vQ:(f++fresh (ms++[s]) z.1.B).length<=1048606:=by have:(fresh (ms++[s]) z.1.B).length<=z.1.B.length:=List.length_filter_le _ _;simp at this |-;omega
     subst vP;have S:Hid (Zz w wr):=yY.o.trans (B.o.2.2.2.mono (by omega));obtain⟨i0,i1,i2,i3,i4,i5,i6⟩:=FR (AQ (yB.o _ B.o.2.2.2).1);obtain⟨⟨r0,f0⟩,⟨r1,f1⟩,⟨r2,f2⟩,⟨r3,f3⟩,⟨r4,f4⟩,⟨r5,f5⟩⟩:=r6 (yB.o _ B.o.2.2.2).2.1;obtain⟨⟨u0,j0⟩,⟨u1,j1⟩,⟨u2,j2⟩,⟨u3,j3⟩,⟨u4,j4⟩,⟨u5,j5⟩,⟨u6,j6⟩,⟨u7,j7⟩,⟨u8,j8⟩,⟨u9,j9⟩,⟨Z,zS⟩,⟨zA,zT⟩,⟨zB,zU⟩,⟨zC,zV⟩,zE,zW⟩:=IA (yB.o _ B.o.2.2.2).2.2
     have vK:w.heap.size+3<=wr.heap.size:=Zm vI B.o.2.2.2.size;generalize hqq:f++fresh (ms++[s]) z.1.B=qq at *
     clear hE;go_wp2;refine bodyPost_ret (v:=.agg #[Ze,Zg Q,Zg now,Zg d,Zg c,Yz b j.length F,.slice O K.length P,.slice M J.length N,Zg D,.slice qa qq.length qc,.slice y (ms.length+1) l,Zg u,Zg o,Zg L,Zb]) (by simp[results,results128,go_sem,u0,u1,u2,u3,u4,u5,u6,u7,u8,u9,Z,zA,zB,zC,zE]) rfl ?_
     have hT:=(Bl wr (w.heap.size+1) 1 (.slice qa qq.length qc)).mono (V':=[w.heap.size+1,w.heap.size+2]) (by simp);refine LU.from (X:=wr) [w.heap.size+1,w.heap.size+2] ?_ (hT.trans ((JY _ (w.heap.size+2) _ _ _ _ _ _ _ _ _ _ _ _ _ _ _).mono (by simp)));intro wf A;have r:=S.o.trans (A.below S.o.size (by simp));obtain⟨a,cc,e1,hS⟩:=(HE.o.K A (fun g m e=>by have:=(HE.o.Z m).1;simp at e;omega)).row
     cases e1;obtain⟨ma,mc,e2,yD⟩:=(B.o.2.1.K A (fun g m e=>by have:=(B.o.2.1.Z m).1;simp at e;omega)).row;rw[List.length_append,List.length_cons,List.length_nil,Nat.zero_add]at e2;cases e2
     exact⟨⟨⟨j.map (·.1),D,u,o,L,qq,(ms++[s]),[]⟩,b,F,j,_,_,none,qc,l,0,(by simp),.mark yU s f _ _ rfl (.inr ⟨z.1,xQ.o.1,xQ.o.2,xK.o,rfl,hqq.symm⟩),rfl,T.o.1.below r zH,Zr zH r.size,hS,yD,.inl rfl,⟨(fun p e=>by cases e;exact .inl rfl),Dl.own HE.o (by omega),Dl.own B.o.2.1 (by omega),Dl.no⟩,fun z hz=>hz,HE.o.cap,B.o.2.1.cap,HE.o.ix.mono A.size,B.o.2.1.ix.mono A.size⟩,r⟩
theorem KN{c:Zh}{b d:Nat}{e:List (Kd×Value)}(h:Bi w b d e)(a:c.heap[b]?=w.heap[b]?)(n:∀z∈e,∃f o,z.2=.slice (some f) z.1.B.length o/\Ad c c.heap.size (some f) z.1.B):Bi c b d e:=by intro i z g;obtain⟨⟨j,k,l,m⟩,_⟩:=h i z g;exact⟨⟨(World.cell?_of_block a).trans j,(World.cell?_of_block a).trans k,(World.cell?_of_block a).trans l,(World.cell?_of_block a).trans m⟩,n z (Zs g)⟩
theorem PB(F now d a:Int)(b G:Nat)(f:List (Kd×Value))(t:List Pd)(o:List Ld)(B A:Zk)(E D:Nat)(ph u K C:Int)(I H:Zk)(R Q:Nat)(q:Zl)(w:Zh)(zW:ph≠0)(hz:Bi w b 0 f)(V:b<w.heap.size)(yG:Fg I 0 R)(yH:Lt w I)(hp:AO w w.heap.size B t)(hl:AM w w.heap.size A o)(hm:Ad w w.heap.size H q)(yF:Fg H q.length Q)(yI:Lt w H)(xK:f.length<=600)(xH:t.length<=100)(xG:o.length<=200)(zX:∀z∈f,z.1.B.length<=30)(xT:q.length<=100000)(xN:0<=C)(xO:C<=1000000000):
 Calls prog 128 #[.agg (Yg F now d a (some ⟨b,0,none⟩) f.length G B t.length E A o.length D),.agg (Ye ph I 0 R H q.length Q u K C)] w fun e w'=>LU w w' e F now d a (.slice B t.length E) (.slice A o.length D) (f.map (·.1)) t o ph u K C [] q b I H f:=by
 have xM:(ph==0)=false:=by simpa using zW
 obtain⟨W,hW⟩:=Af (((w.alloc (.cells (Yg F now d a (some ⟨b,0,none⟩) f.length G B t.length E A o.length D) 30)).alloc (.cells (Ye ph I 0 R H q.length Q u K C) 49)).alloc (.cells Xw 211));have yE:Below w.heap.size w W:=by rw[hW];exact((Zy).alloc (by simp) _).alloc (by simp;omega) _
 have yY:W.heap.size=w.heap.size+3:=by rw[hW];simp
 have x2:Aa W (w.heap.size+2) EV:=by have h1:=Aa.new ((w.alloc (.cells (Yg F now d a (some ⟨b,0,none⟩) f.length G B t.length E A o.length D) 30)).alloc (.cells (Ye ph I 0 R H q.length Q u K C) 49)) EV 211;rw[hW];simpa [EV]using h1
 have x1:Aa W (w.heap.size+1) (Xv ph I 0 R H q.length Q u K C):=by have h1:=Aa.new (w.alloc (.cells (Yg F now d a (some ⟨b,0,none⟩) f.length G B t.length E A o.length D) 30)) (Xv ph I 0 R H q.length Q u K C) 49;rw[World.size_alloc]at h1;rw[hW];exact Aa.below h1 (Zy)
 have x0:Aa W w.heap.size (Yh F now d a (some ⟨b,0,none⟩) f.length G B t.length E A o.length D):=by have h1:=Aa.new w (Yh F now d a (some ⟨b,0,none⟩) f.length G B t.length E A o.length D) 30;rw[hW];exact Aa.below (Aa.below h1 (Zy)) (Zy)
 have HW:=Yw hW;have xQ:Hid (W.heap.size=w.heap.size+3):=yY;have xP:w.heap.size+3<=W.heap.size:=by omega
 clear hW yY;obtain⟨W1,zY⟩:=Af (W.setCell (Zd (w.heap.size+1) 0) (Zg 2));have zU:Tn [w.heap.size+1] W W1:=by rw[zY];exact Bl _ _ _ _
 have xU:W.heap.size<=W1.heap.size:=zU.size;have zV:Below w.heap.size w W1:=yE.trans (zU.below yE.size (by simp))
 have H1:Hid (Aa W1 w.heap.size (Yh F now d a (some ⟨b,0,none⟩) f.length G B t.length E A o.length D)/\Aa W1 (w.heap.size+1) (Xv 2 I 0 R H q.length Q u K C)/\Aa W1 (w.heap.size+2) EV):=⟨Aa.same x0 (zU.block _ (by omega) (by simp)),(by rw[zY];exact x1.set 0 _),Aa.same x2 (zU.block _ (by omega) (by simp))⟩;have yN:=Yw zY;have J:=Yw (Za hz (Za hp (Za hl (Za zX hm))))
 have yC:Hid (Ad w w.heap.size I []):=.inl rfl;have HN:=Sf F now d a K (some ⟨b,0,none⟩) G (.slice B t.length E) (.slice A o.length D) (f.map (·.1)) W1 (Bu.mono (Bu.below (hz.dq V) zV) zV.size) (by rw[List.length_map];omega);rw[List.length_map]at HN;have yZ:=Yw HN
 have H0:(Aa W w.heap.size (Yh F now d a (some ⟨b,0,none⟩) f.length G B t.length E A o.length D)/\Aa W (w.heap.size+1) (Xv ph I 0 R H q.length Q u K C)/\Aa W (w.heap.size+2) EV):=⟨x0,x1,x2⟩;obtain⟨i0,i1,i2,i3,i4,i5,i6⟩:=FR (AQ H0.1);obtain⟨⟨r0,f0⟩,⟨r1,f1⟩,⟨r2,f2⟩,⟨r3,f3⟩,⟨r4,f4⟩,⟨r5,f5⟩⟩:=r6 H0.2.1
 obtain⟨⟨y0,q0⟩,⟨y1,q1⟩,⟨y2,q2⟩,⟨y3,q3⟩,⟨y4,q4⟩,⟨y5,q5⟩,⟨y6,q6⟩,⟨y7,q7⟩,⟨y8,q8⟩,⟨y9,q9⟩,⟨L,zE⟩,⟨M,zF⟩,⟨N,zG⟩,⟨O,zH⟩,P,zI⟩:=IA H0.2.2;clear zY hz hp hl hm x0 x1 x2 zU yE zX HN H0;go_enter func128,ntmps128;go_upto_region 1 with fail;rw[<-HW.o];clear HW;go_upto_region 22 with fail;rw[<-yN.o]
 clear yN i0 i1 i2 i3 i4 i5 i6 r0 r1 r2 r3 r4 r5 f0 f1 f2 f3 f4 f5 y0 q0 y1 q1 y2 q2 y3 q3 y4 q4 y5 q5 y6 q6 y7 q7 y8 q8 y9 q9 L zE M zF N zG O zH P zI;obtain⟨i0,i1,i2,i3,i4,i5,i6⟩:=FR (AQ H1.o.1);obtain⟨⟨r0,f0⟩,⟨r1,f1⟩,⟨r2,f2⟩,⟨r3,f3⟩,⟨r4,f4⟩,⟨r5,f5⟩⟩:=r6 H1.o.2.1;obtain⟨⟨y0,q0⟩,⟨y1,q1⟩,⟨y2,q2⟩,⟨y3,q3⟩,⟨y4,q4⟩,⟨y5,q5⟩,⟨y6,q6⟩,⟨y7,q7⟩,⟨y8,q8⟩,⟨y9,q9⟩,⟨L,zE⟩,⟨M,zF⟩,⟨N,zG⟩,⟨O,zH⟩,P,zI⟩:=IA H1.o.2.2
 go_wp2_with fail;refine yZ.Ah ?_;rintro e w2 ⟨r,rfl,yV,zP⟩;have H2:=Yw (Za (Aa.below H1.o.1 zP) (Za (Aa.below H1.o.2.1 zP) (Aa.below H1.o.2.2 zP)));have zK:Hid (Zz w w2):=zV.trans (zP.mono zV.size);have xV:w.heap.size+3<=w2.heap.size:=by have:=zP.size;omega
 have yB:Hid (Dk (f.map (·.1)) K r):=yV;clear i0 i1 i2 i3 i4 i5 i6 r0 r1 r2 r3 r4 r5 f0 f1 f2 f3 f4 f5 y0 q0 y1 q1 y2 q2 y3 q3 y4 q4 y5 q5 y6 q6 y7 q7 y8 q8 y9 q9 L zE M zF N zG O zH P zI H1 zP yV zV;obtain⟨i0,i1,i2,i3,i4,i5,i6⟩:=FR (AQ H2.o.1);obtain⟨⟨r0,f0⟩,⟨r1,f1⟩,⟨r2,f2⟩,⟨r3,f3⟩,⟨r4,f4⟩,⟨r5,f5⟩⟩:=r6 H2.o.2.1
 obtain⟨⟨y0,q0⟩,⟨y1,q1⟩,⟨y2,q2⟩,⟨y3,q3⟩,⟨y4,q4⟩,⟨y5,q5⟩,⟨y6,q6⟩,⟨y7,q7⟩,⟨y8,q8⟩,⟨y9,q9⟩,⟨L,zE⟩,⟨M,zF⟩,⟨N,zG⟩,⟨O,zH⟩,P,zI⟩:=IA H2.o.2.2;rcases yB.o with⟨rfl,yU⟩|⟨i,k,rfl,yA,yS,yT⟩
 .have xA:Hid (∀y∈f.map (·.1),¬y.born<K):=yU;clear yU yB;go_wp2;refine bodyPost_ret (v:=.agg #[Ze,Zg F,Zg now,Zg d,Zg a,Yz b f.length G,.slice B t.length E,.slice A o.length D,Ze,Zb,Zb,Ze,Ze,Zg (C+1),Zb]) (by simp[results,results128,go_sem,y0,y1,y2,y3,y4,y5,y6,y7,y8,y9,L,M,N,O,P]) rfl ?_;refine LU.from (X:=w2) [w.heap.size+2] ?_ (JY w2 (w.heap.size+2) _ _ _ _ _ _ _ _ _ _ _ _ _ _ _);intro wf S
  have l:=zK.o.trans (S.below zK.o.size (by simp));exact⟨⟨⟨f.map (·.1),0,0,0,C+1,[],[],[]⟩,b,G,f,_,_,none,_,_,0,rfl,.rest zW rfl (fun y hy=>Int.not_lt.2 (xA.o y hy)),rfl,J.o.1.below l V,Zr V l.size,.inl rfl,.inl rfl,.inl rfl,⟨(fun p e=>by cases e;exact .inl rfl),Dl.no,Dl.no,Dl.no⟩,fun z hz=>hz,⟨Zx,fun _=>⟨rfl,rfl⟩⟩,⟨Zx,fun _=>⟨rfl,rfl⟩⟩,Lt.no,Lt.no⟩,l⟩
 .obtain⟨z,yJ,xJ⟩:∃z,f[i]?=some z/\z.1=k:=by rw[List.getElem?_map]at yA;obtain⟨z,h1,h2⟩:=Option.map_eq_some_iff.1 yA;exact⟨z,h1,h2⟩
  subst xJ;have HY:Hid (Mj (f.map (·.1)) K z.1):=⟨Zs yA,yS,yT⟩;have xS:i<f.length:=(Zw yJ).1;have xL:¬((i:Int)<0):=by omega
  obtain⟨⟨d0,d1,_,_⟩,_⟩:=(J.o.1.below zK.o V) i z yJ;rw[Nat.zero_add]at d0 d1;obtain⟨T,zZ⟩:=Af (w2.setCell (Zd (w.heap.size+1) 4) (Zg z.1.born));have zN:Tn [w.heap.size+1] w2 T:=by rw[zZ];exact Bl _ _ _ _
  have yD:Below w.heap.size w T:=zK.o.trans (zN.below zK.o.size (by simp));have H3:Hid (Aa T w.heap.size (Yh F now d a (some ⟨b,0,none⟩) f.length G B t.length E A o.length D)/\Aa T (w.heap.size+1) (Xv 2 I 0 R H q.length Q u z.1.born C)/\Aa T (w.heap.size+2) EV):=⟨Aa.same H2.o.1 (zN.block _ (by omega) (by simp)),(by rw[zZ];exact H2.o.2.1.set 4 _),Aa.same H2.o.2.2 (zN.block _ (by omega) (by simp))⟩
  have e0:T.cell? (Zd b (i *4))=some (.string z.1.sum):=(World.cell?_of_block (zN.block b (by have:=zK.o.size;omega) (by simp;omega))).trans d0;have yO:=Yw zZ;have yX:w.heap.size+3<=T.heap.size:=by have:=zN.size;omega
  clear zZ zN yA yS yT yB yJ;go_upto_region 26 with fail;rw[<-yO.o];clear yO d0 d1 i0 i1 i2 i3 i4 i5 i6 r0 r1 r2 r3 r4 r5 f0 f1 f2 f3 f4 f5 y0 q0 y1 q1 y2 q2 y3 q3 y4 q4 y5 q5 y6 q6 y7 q7 y8 q8 y9 q9 L zE M zF N zG O zH P zI;obtain⟨i0,i1,i2,i3,i4,i5,i6⟩:=FR (AQ H3.o.1);obtain⟨⟨r0,f0⟩,⟨r1,f1⟩,⟨r2,f2⟩,⟨r3,f3⟩,⟨r4,f4⟩,⟨r5,f5⟩⟩:=r6 H3.o.2.1
  obtain⟨⟨y0,q0⟩,⟨y1,q1⟩,⟨y2,q2⟩,⟨y3,q3⟩,⟨y4,q4⟩,⟨y5,q5⟩,⟨y6,q6⟩,⟨y7,q7⟩,⟨y8,q8⟩,⟨y9,q9⟩,⟨L,zE⟩,⟨M,zF⟩,⟨N,zG⟩,⟨O,zH⟩,P,zI⟩:=IA H3.o.2.2;have HC:=Yw (Fw H Q q z.1.sum T T.heap.size (Ad.N J.o.2.2.2.2 yD) (by omega));have U:Hid (Zz w T):=yD;go_wp2_with fail;refine HC.Ah ?_;rintro e w9 ⟨rfl,yW⟩;rw[yW];clear yW HC w9 yD e0;by_cases hin:z.1.sum∈q
  .have zA:q.any (fun x=>decide (x=z.1.sum))=true:=List.any_eq_true.2 ⟨z.1.sum,hin,by simp⟩;rw[zA];clear zA;go_wp2;refine bodyPost_ret (v:=.agg #[Ze,Zg F,Zg now,Zg d,Zg a,Yz b f.length G,.slice B t.length E,.slice A o.length D,Zg 2,.slice I 0 R,.slice H q.length Q,Zg u,Zg z.1.born,Zg C,Zb]) (by simp[results,results128,go_sem,y0,y1,y2,y3,y4,y5,y6,y7,y8,y9,L,M,N,O,P]) rfl ?_
   refine LU.from (X:=T) [w.heap.size+2] ?_ (JY T (w.heap.size+2) _ _ _ _ _ _ _ _ _ _ _ _ _ _ _);intro wf S;have l:=U.o.trans (S.below U.o.size (by simp))
   exact⟨⟨⟨f.map (·.1),2,u,z.1.born,C,[],q,[]⟩,b,G,f,_,_,none,_,_,0,rfl,.ag zW rfl z.1 HY.o (.inl hin),rfl,J.o.1.below l V,Zr V l.size,yC.o.N l,J.o.2.2.2.2.N l,.inl rfl,⟨(fun p e=>by cases e;exact .inl rfl),(fun p e=> .inr (.inl ⟨p,e,rfl⟩)),(fun p e=> .inr (.inr (.inl ⟨p,e,rfl⟩))),Dl.no⟩,fun z hz=>hz,yG,yF,yH.mono l.size,yI.mono l.size⟩,l⟩
  .have zA:q.any (fun x=>decide (x=z.1.sum))=false:=by simp;exact fun x hx e=>hin (e▸hx)
   rw[zA];have yK:Hid (z.1.sum∉q):=hin;have HD:=Mg F now d a b 0 G E D B A f t o z.1.sum T (J.o.1.below U.o V) (Zr V U.o.size) (AO.mono (AO.below J.o.2.1 U.o) U.o.size) (AM.mono (AM.below J.o.2.2.1 U.o) U.o.size) xK xH xG (fun z hz=>Zm (J.o.2.2.2.1 z hz) (by omega)) ⟨z.1,HY.o.1,rfl⟩;have yM:=Yw HD;clear zA hin HD;go_wp2_with fail;refine yM.Ah ?_;rintro e Z ⟨zJ,yL⟩
   have zM:Below w.heap.size w Z:=U.o.trans (zJ.mono U.o.size);have H4:=Yw (Za (Aa.below H3.o.1 zJ) (Za (Aa.below H3.o.2.1 zJ) (Aa.below H3.o.2.2 zJ)));have xI:w.heap.size+3<=Z.heap.size:=Zm yX zJ.size;clear i0 i1 i2 i3 i4 i5 i6 r0 r1 r2 r3 r4 r5 f0 f1 f2 f3 f4 f5 y0 q0 y1 q1 y2 q2 y3 q3 y4 q4 y5 q5 y6 q6 y7 q7 y8 q8 y9 q9 L zE M zF N zG O zH P zI yM H3
   rcases yL with⟨zB,rfl⟩|⟨zB,g,c,rfl,yP,xD,yR⟩
   .have zR:Hid (GN t o (f.map (·.1)) z.1.sum):=zB;obtain⟨m,zC⟩:=Af (Z.alloc (.cells (Xx 6) 32));have Y:Below Z.heap.size Z m:=by rw[zC];exact Zy
    have H5:(Aa m w.heap.size (Yh F now d a (some ⟨b,0,none⟩) f.length G B t.length E A o.length D)/\Aa m (w.heap.size+1) (Xv 2 I 0 R H q.length Q u z.1.born C)/\Aa m (w.heap.size+2) EV):=⟨Aa.below H4.o.1 Y,Aa.below H4.o.2.1 Y,Aa.below H4.o.2.2 Y⟩;have n0:m.cell? (Zd (Z.heap.size) 0)=some (Zg 6):=by rw[zC];simp[go_sem]
    have zS:Hid (Zz w m):=zM.trans (Y.mono zM.size);have zT:=Yw zC;clear zC zB zM zJ Y;go_upto_region 30 with fail;rw[<-zT.o];clear zT H4;obtain⟨i0,i1,i2,i3,i4,i5,i6⟩:=FR (AQ H5.1);obtain⟨⟨r0,f0⟩,⟨r1,f1⟩,⟨r2,f2⟩,⟨r3,f3⟩,⟨r4,f4⟩,⟨r5,f5⟩⟩:=r6 H5.2.1;obtain⟨⟨y0,q0⟩,⟨y1,q1⟩,⟨y2,q2⟩,⟨y3,q3⟩,⟨y4,q4⟩,⟨y5,q5⟩,⟨y6,q6⟩,⟨y7,q7⟩,⟨y8,q8⟩,⟨y9,q9⟩,⟨L,zE⟩,⟨M,zF⟩,⟨N,zG⟩,⟨O,zH⟩,P,zI⟩:=IA H5.2.2;go_wp2
    refine bodyPost_ret (v:=.agg #[Ze,Zg F,Zg now,Zg d,Zg a,Yz b f.length G,.slice B t.length E,.slice A o.length D,Zg 2,.slice I 0 R,.slice H q.length Q,Zg u,Zg z.1.born,Zg C,Zb]) (by simp[results,results128,go_sem,y0,y1,y2,y3,y4,y5,y6,y7,y8,y9,L,M,N,O,P]) rfl ?_;refine LU.from (X:=m) [w.heap.size+2] ?_ (JY m (w.heap.size+2) _ _ _ _ _ _ _ _ _ _ _ _ _ _ _);intro wf S
    have l:=zS.o.trans (S.below zS.o.size (by simp));exact⟨⟨⟨f.map (·.1),2,u,z.1.born,C,[],q,[]⟩,b,G,f,_,_,none,_,_,0,rfl,.ag zW rfl z.1 HY.o (.inr zR.o),rfl,J.o.1.below l V,Zr V l.size,yC.o.N l,J.o.2.2.2.2.N l,.inl rfl,⟨(fun p e=>by cases e;exact .inl rfl),(fun p e=> .inr (.inl ⟨p,e,rfl⟩)),(fun p e=> .inr (.inr (.inl ⟨p,e,rfl⟩))),Dl.no⟩,fun z hz=>hz,yG,yF,yH.mono l.size,yI.mono l.size⟩,l⟩
   .have zR:Hid (¬GN t o (f.map (·.1)) z.1.sum):=zB;obtain⟨m,zC⟩:=Af (Z.alloc (.cells #[Ze,Zg F,Zg now,Zg d,Zg a,Yz g (BD f z.1.sum).length c,.slice B t.length E,.slice A o.length D,Zc,Ze,Zc,Zc] 32));have Y:Below Z.heap.size Z m:=by rw[zC];exact Zy
    have H5:=Yw (Za (Aa.below H4.o.1 Y) (Za (Aa.below H4.o.2.1 Y) (Aa.below H4.o.2.2 Y)));have n:Aa m Z.heap.size [Ze,Zg F,Zg now,Zg d,Zg a,Yz g (BD f z.1.sum).length c,.slice B t.length E,.slice A o.length D,Zc,Ze,Zc,Zc]:=by rw[zC];exact Aa.new Z _ _
    obtain⟨n0,_⟩:=n 0 _ rfl;obtain⟨n1,_⟩:=n 1 _ rfl;obtain⟨n2,_⟩:=n 2 _ rfl;obtain⟨n3,_⟩:=n 3 _ rfl;obtain⟨n4,_⟩:=n 4 _ rfl;obtain⟨n5,_⟩:=n 5 _ rfl;obtain⟨n6,_⟩:=n 6 _ rfl;obtain⟨n7,_⟩:=n 7 _ rfl;have zS:Hid (Zz w m):=zM.trans (Y.mono zM.size);have xC:Hid (Bi m g 0 (BD f z.1.sum)):=yP.below Y yR;have xR:w.heap.size+3<=g:=Zm yX xD;have xE:g<m.heap.size:=Zr yR Y.size
    have xW:w.heap.size+3<=m.heap.size:=Zm xI Y.size;have zT:=Yw zC;clear zC zB zM zJ Y n yP;go_upto_region 30 with fail;rw[<-zT.o];clear zT H4;obtain⟨i0,i1,i2,i3,i4,i5,i6⟩:=FR (AQ H5.o.1);obtain⟨⟨r0,f0⟩,⟨r1,f1⟩,⟨r2,f2⟩,⟨r3,f3⟩,⟨r4,f4⟩,⟨r5,f5⟩⟩:=r6 H5.o.2.1;obtain⟨W6,zO⟩:=Af (m.alloc (.cells #[.string z.1.sum] 9));have b6:Below m.heap.size m W6:=by rw[zO];exact Zy
    have p0:W6.cell? (Zd (m.heap.size) 0)=some (.string z.1.sum):=by rw[zO];simp[go_sem]
    have xF:m.heap.size<W6.heap.size:=by rw[zO];simp
    have H6:Aa (m.alloc (.cells #[.string z.1.sum] 9)) (w.heap.size+1+1) EV:=by rw[<-zO];exact Aa.below (v:=Ze) H5.o.2.2 b6
    have xB:=Yw zO;obtain⟨⟨y0,q0⟩,⟨y1,q1⟩,⟨y2,q2⟩,⟨y3,q3⟩,⟨y4,q4⟩,⟨y5,q5⟩,⟨y6,q6⟩,⟨y7,q7⟩,⟨y8,q8⟩,⟨y9,q9⟩,⟨L,zE⟩,⟨M,zF⟩,⟨N,zG⟩,⟨O,zH⟩,P,zI⟩:=IA H6;have HH:=Yw (Za b6 p0);clear zO b6 p0;go_wp2
    refine bodyPost_ret (v:=.agg #[Ze,Zg F,Zg now,Zg d,Zg a,Yz g (BD f z.1.sum).length c,.slice B t.length E,.slice A o.length D,Zg 2,.slice I 0 R,.slice H q.length Q,Zg u,Zg z.1.born,Zg C,Yz m.heap.size 1 1]) (by simp[results,results128,go_sem,y0,y1,y2,y3,y4,y5,y6,y7,y8,y9,L,M,N,O,P]) rfl ?_;rw[<-xB.o]
    refine LU.from (X:=W6) [w.heap.size+2] ?_ (JY W6 (w.heap.size+2) _ _ _ _ _ _ _ _ _ _ _ _ _ _ _);intro wf S;have yQ:=zS.o.trans (HH.o.1.mono zS.o.size);have l:=yQ.trans (S.below yQ.size (by simp))
    refine⟨⟨⟨CK (f.map (·.1)) z.1.sum,2,u,z.1.born,C,[],q,[z.1.sum]⟩,g,c,BD f z.1.sum,_,_,_,_,_,1,rfl,.drop zW rfl z.1 HY.o yK.o zR.o,JX _ _,KN (xC.o.below HH.o.1 xE) (S.block _ (by omega) (by simp;omega)) (fun v hv=> ?_),by have:=S.size;omega,yC.o.N l,J.o.2.2.2.2.N l,.inr ⟨_,0,rfl,by have:=S.size;omega,fun i s h=> ?_⟩,⟨Dl.new (by omega),(fun p e=> .inr (.inl ⟨p,e,rfl⟩)),(fun p e=> .inr (.inr (.inl ⟨p,e,rfl⟩))),Dl.new (by omega)⟩,fun v hv=>(List.mem_filter.1 hv).1,yG,yF,yH.mono l.size,yI.mono l.size⟩,l⟩
    .obtain⟨j,hj⟩:=List.getElem?_of_mem ((List.mem_filter.1 hv).1);obtain⟨_,ad,rc,h1,h2⟩:=J.o.1 j v hj;exact⟨ad,rc,h1,h2.N l⟩
    .match i,h with
     |0,h=>cases h;exact(World.cell?_of_block (S.block _ xF (by simp;omega))).trans HH.o.2
structure LV (w w':Zh) (e:Ending) (wd now given births:Int) (P L:Value) (ks:List Kd) (ps:List Pd) (ls:List Ld) (ph top at_ ro:Int) (qs ms:Zl) (b0:Nat) (x0 y0:Zk) (zs0:List (Kd×Value)) (r:UR) (b c:Nat) (zs:List (Kd×Value)) (qa ma da:Zk) (qc mc dc:Nat):Prop where
 e:e=.returned (.agg #[Ze,Zg wd,Zg now,Zg given,Zg births,.slice (some ⟨b,0,none⟩) r.A.length c,P,L,Zg r.L,.slice qa r.G.length qc,.slice ma r.ms.length mc,Zg r.Q,Zg r.P,Zg r.ro,.slice da r.ds.length dc])
 uto:UTo ks ps ls births ph top at_ ro qs ms r
 zk:zs.map (·.1)=r.A
 z:Bi w' b 0 zs
 lt:b<w'.heap.size
 q:Ad w' w'.heap.size qa r.G
 m:Ad w' w'.heap.size ma r.ms
 d:Ad w' w'.heap.size da r.ds
 fb:Dl b0 x0 y0 w.heap.size (some ⟨b,0,none⟩)
 fq:Dl b0 x0 y0 w.heap.size qa
 fm:Dl b0 x0 y0 w.heap.size ma
 fd:Dl b0 x0 y0 w.heap.size da
 sub:∀z∈zs,z∈zs0
 cq:Fg qa r.G.length qc
 cm:Fg ma r.ms.length mc
 lq:Lt w' qa
 lm:Lt w' ma
 low:Below w.heap.size w w'
theorem LU.lv{C:Zh}{e:Ending}{D now d a:Int}{P L:Value}{u:List Kd}{z:List Pd}{v:List Ld}{y g f B:Int}{A x:Zl}{s:Nat}{E F:Zk}{i:List (Kd×Value)}(h:LU w C e D now d a P L u z v y g f B A x s E F i):∃r b c q n l j o m k,LV w C e D now d a P L u z v y g f B A x s E F i r b c q n l j o m k:=by obtain⟨⟨r,b,c,q,n,l,j,o,m,k,Q,R,t,S,T,U,V,W,⟨X,Y,G,H⟩,I,K,M,N,O⟩,J⟩:=h;refine⟨r,b,c,q,n,l,j,o,m,k,?_,R,t,S,T,U,V,W,X,Y,G,H,I,K,M,N,O,J⟩;rw[Q,<-t,List.length_map]
theorem Sp(y now d a:Int)(b K:Nat)(m:List (Kd×Value))(G:List Kd)(j:List Pd)(g:List Ld)(u t:Zk)(C B:Nat)(v o n x:Int)(k l:Zk)(D E:Nat)(q i:Zl)(w:Zh)(U:m.map (·.1)=G)(F:Bi w b 0 m)(H:b<w.heap.size)(S:AO w w.heap.size u j)(Q:AM w w.heap.size t g)(Z:Ad w w.heap.size k q)(P:Ad w w.heap.size l i)(M:Fg k q.length D)(I:Fg l i.length E)(T:Lt w k)(J:Lt w l)(f:UOk y a G j g v x q i)(N:i.length<=100000):
 Calls prog 128 #[.agg (Yg y now d a (some ⟨b,0,none⟩) G.length K u j.length C t g.length B),.agg (Ye v k q.length D l i.length E o n x)] w fun e L=>∃r W c V qa ma X qc mc Y,LV w L e y now d a (.slice u j.length C) (.slice t g.length B) G j g v o n x q i b k l m r W c V qa ma X qc mc Y:=by
 refine Calls.mono (R:=fun e L=>LU w L e y now d a (.slice u j.length C) (.slice t g.length B) G j g v o n x q i b k l m) ?_ (fun e L h=>h.lv);subst U;have O:m.length<=600:=by have:=f.ok.len;rw[List.length_map]at this;exact this
 have A:∀z∈m,z.1.B.length<=30:=fun z F=>(f.B z.1 (List.mem_map.2 ⟨z,F,rfl⟩)).1;rw[List.length_map];by_cases h0:v=0
 .subst h0;exact PA y now d a b K _ _ m j g u t C B rfl rfl o n x k l D E q i w F H S Q P I J f.pl f.ll f.b0 f.b1
 .cases q with
  |nil=>exact PB y now d a b K m j g u t C B v o n x k l D E i w h0 F H M T S Q P I J O f.pl f.ll A N f.r0 f.r1
  |cons s q0=>exact Qs y now d a b K m j g u t C B v o n x k l D E s q0 i w h0 F H Z P I J M.1 O A (by have:=f.ql;simp at this;omega) N
theorem Ad.K{f:Zl}(h:Ad w w.heap.size a f)(e:Tn V w d)(j:∀p,a=some p->p.block<w.heap.size->p.block∉V):Ad d d.heap.size a f:=by
 rcases h with h|⟨b,g,rfl,c,k⟩
 .exact .inl h
 .exact .inr ⟨b,g,rfl,Zr c e.size,fun i s l=>(World.cell?_of_block (e.block b c (j _ rfl c))).trans (k i s l)⟩
theorem AO.K{k:List Pd}(h:AO w w.heap.size a k)(j:Tn V w d)(m:∀p,a=some p->p.block<w.heap.size->p.block∉V):AO d d.heap.size a k:=by
 rcases h with h|⟨b,l,rfl,c,e⟩
 .exact .inl h
 .have f:=j.block b c (m _ rfl c);exact .inr ⟨b,l,rfl,Zr c j.size,fun i s g=>⟨(World.cell?_of_block f).trans (e i s g).1,(World.cell?_of_block f).trans (e i s g).2⟩⟩
theorem AM.K{g:Zh}{k:List Ld}(h:AM w w.heap.size a k)(j:Tn V w g)(m:∀p,a=some p->p.block<w.heap.size->p.block∉V):AM g g.heap.size a k:=by
 rcases h with h|⟨b,l,rfl,c,d⟩
 .exact .inl h
 .have e:=j.block b c (m _ rfl c);exact .inr ⟨b,l,rfl,Zr c j.size,fun i s f=>⟨(World.cell?_of_block e).trans (d i s f).1,(World.cell?_of_block e).trans (d i s f).2.1,(World.cell?_of_block e).trans (d i s f).2.2⟩⟩
structure Abp (w w':Zh) (e:Ending) (b:Nat) (a:Zk) (n c:Nat) (p:Int) (m:Nat):Prop where
 ex:∃T:Zi,e=.returned (.string T)/\T.size<=m+4
 I:Hu w w' b a n c p 3
def Aat:Array Value:= #[.string ⟨#[32]⟩,.string ⟨#[10]⟩,.string ⟨#[0]⟩,.string ⟨#[45]⟩,.string ⟨#[48]⟩,.string ⟨#[120]⟩,.string ⟨#[37,122,122]⟩,.string ⟨#[37,52]⟩]
theorem VE(k:Nat)(h:k<8):∃X:Zi,Aat[k]?=some (.string X)/\X.size<=4:=by
 match k,h with
 |0,_=>exact⟨_,rfl,Yq⟩
 |1,_=>exact⟨_,rfl,Yq⟩
 |2,_=>exact⟨_,rfl,Yq⟩
 |3,_=>exact⟨_,rfl,Yq⟩
 |4,_=>exact⟨_,rfl,Yq⟩
 |5,_=>exact⟨_,rfl,Yq⟩
 |6,_=>exact⟨_,rfl,Yq⟩
 |7,_=>exact⟨_,rfl,Yq⟩
theorem NG(W:Zh)(k:Nat)(h:k<8):∃X:Zi,(W.alloc (.cells #[.string ⟨#[32]⟩,.string ⟨#[10]⟩,.string ⟨#[0]⟩,.string ⟨#[45]⟩,.string ⟨#[48]⟩,.string ⟨#[120]⟩,.string ⟨#[37,122,122]⟩,.string ⟨#[37,52]⟩] 9)).cell? (Zd (W.heap.size) k)=some (.string X)/\X.size<=4:=by obtain⟨X,a,b⟩:=VE k h;exact⟨X,by rw[World.cell?_alloc_at _ _ _ _ rfl];exact a,b⟩
theorem Sq(b:Nat)(a:Zk)(n c:Nat)(p:Int)(s:Zi)(w:Zh)(h:AT w b a n c p)(L:0<=p)(S:p<=800000)(Z:s.size<=9000):
 Calls prog 15 #[Yy b,.string s] w fun e N=>Abp w N e b a n c p s.size:=by
 have Q:=h.lt;have y:=Yw h;clear h;go_enter func15,ntmps15;go_wp2_with fail;refine(Bq b a n c p ((s.size:Int)+1) w y.o L Yv Yv Yv).mono ?_;rintro e O ⟨C,rfl,i0,i1,D,z⟩;obtain⟨i,rfl⟩:∃i:Nat,C=i:=⟨C.toNat,Yv⟩;have t:=Yw (Zn D z);clear D z y;go_wp2_with fail;refine(Bq b a n c (p+1) 4 O t.o.1 Yv Yv Yv Yv).mono ?_
 rintro e d ⟨r,rfl,r0,r1,E,A⟩;have f:Hid (AT d b a n c (p+1+1)/\w.grownBy d (some b)):=⟨E,t.o.2.trans A⟩;clear E A t;have K:i<=s.size:=Yv
 by_cases c0:r=0
 .subst c0;go_wp2;go_ret;exact⟨⟨_,rfl,Yt⟩,⟨_,f.o.1,Yv,Yv⟩,f.o.2⟩
 .have W:(r==0)=false:=by simpa using c0
  by_cases c1:r=1
  .subst c1;have q:Below d.heap.size d (d.alloc (.cells #[.string ⟨#[32]⟩,.string ⟨#[10]⟩,.string ⟨#[0]⟩,.string ⟨#[45]⟩,.string ⟨#[48]⟩,.string ⟨#[120]⟩,.string ⟨#[37,122,122]⟩,.string ⟨#[37,52]⟩] 9)):=Zy;have x:=Yw (f.o.1.below (Below.refl d.heap.size d).drew);have M:=Yw (f.o.1.below q.drew);go_upto_region 6 with fail;go_region_with (first
    |(go_at_call 14;refine(Bq b a n c (p+1+1) 8 d.drew x.o Yv Yv Yv Yv).mono ?_;rintro e j ⟨g,rfl,u,v,o,m⟩;obtain⟨k,rfl⟩:∃k:Nat,g=k:=⟨g.toNat,Yv⟩;obtain⟨X,B,hXs⟩:=NG j k Yv;have l:Hid (AT j b a n c (p+1+1+1)/\w.grownBy j (some b)):=⟨o,(f.o.2.trans (Al (some b) (Below.refl d.heap.size d).drew)).trans m⟩)
    |(go_at_call 14;refine(Bq b a n c (p+1+1) 8 _ M.o Yv Yv Yv Yv).mono ?_;rintro e j ⟨g,rfl,u,v,o,m⟩;obtain⟨k,rfl⟩:∃k:Nat,g=k:=⟨g.toNat,Yv⟩;obtain⟨X,hX',hXs⟩:=NG d k Yv;have B:=(m.cell_far ⟨d.heap.size,k,none⟩ Yu (Iq f.o.1.lt)).trans hX';have l:Hid (AT j b a n c (p+1+1+1)/\w.grownBy j (some b)):=⟨o,(f.o.2.trans (Al (some b) q.drew)).trans m⟩))
   all_goals clear B
   all_goals go_wp2
   all_goals go_ret
   all_goals
    refine⟨⟨_,rfl,by simp[ByteArray.size_append];omega⟩,⟨p+1+1+1,?_,Yv,Yv⟩,?_⟩
    .first|exact l.o.1|exact l.o.1.below (Zy)
    .first|exact l.o.2|exact l.o.2.trans (World.grownBy_alloc _ _ _)
  .have Y:(r==1)=false:=by simpa using c1
   by_cases hlt:i<s.size
   .have J:decide ((i:Int)<(s.size:Int))=true:=decide_eq_true Yv;by_cases c2:r=2
    .subst c2;go_upto_region 9 with fail;go_quiet (fail);go_wp2;go_ret;exact⟨⟨_,rfl,by simp[ByteArray.size_append];omega⟩,⟨_,f.o.1.drewN _,Yv,Yv⟩,KH f.o.2 _⟩
    .have I:(r==2)=false:=by simpa using c2
     have x:=Yw (f.o.1.below (Below.refl d.heap.size d).drew);have V:IntKind.i64.wrap ((i:Int)+1)=(i:Int)+1:=Cs Yv Yv;have R:(i:Int)+1<=(s.size:Int):=Yv
     have G:(0:Int)<=(i:Int)+1:=Yv
     have H:((i:Int)+1).toNat=i+1:=Yv
     go_upto_region 11 with fail;go_region_with (first
      |(go_at_call 14;refine(Bq b a n c (p+1+1) 256 d.drew x.o Yv Yv Yv Yv).mono ?_;rintro e j ⟨g,rfl,u,v,o,m⟩;have U:IntKind.u8.wrap g=g:=QL u v;have F:=run_convert_bytes_arg (P:=prog) (j.alloc (.cells #[.int .u8 g] 5)) 22 5 underlying22 underlying5 j.heap.size 0 1 1 [g] rfl (fun i K=>by obtain rfl:i=0:=Yv;simp) 9 underlying9;have T:=GY [g];have l:Hid (AT j b a n c (p+1+1+1)/\w.grownBy j (some b)):=⟨o,(f.o.2.trans (Al (some b) (Below.refl d.heap.size d).drew)).trans m⟩))
     all_goals clear F
     all_goals go_wp2
     all_goals go_ret
     all_goals
      refine⟨⟨_,rfl,by simp[ByteArray.size_append,GY];omega⟩,⟨p+1+1+1,?_,Yv,Yv⟩,?_⟩
      .first|exact l.o.1|exact l.o.1.below (Zy)
      .first|exact l.o.2|exact l.o.2.trans (World.grownBy_alloc _ _ _)
   .have J:decide ((i:Int)<(s.size:Int))=false:=decide_eq_false Yv;by_cases c2:r=2
    .subst c2;go_wp2;go_ret;exact⟨⟨_,rfl,Yv⟩,⟨_,f.o.1,Yv,Yv⟩,f.o.2⟩
    .have I:(r==2)=false:=by simpa using c2
     go_wp2;go_ret;exact⟨⟨_,rfl,Yv⟩,⟨_,f.o.1,Yv,Yv⟩,f.o.2⟩
end Go.Proofs.YtoglnpagihdhpaaGreatDoor
