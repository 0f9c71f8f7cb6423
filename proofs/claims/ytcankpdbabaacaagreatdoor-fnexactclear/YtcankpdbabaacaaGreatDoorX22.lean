import Derived.Test.YtcankpdbabaacaaGreatDoorX21
set_option maxRecDepth 100000
set_option maxHeartbeats 16000000
namespace Go.Proofs.YtcankpdbabaacaaGreatDoor
open Go.ChangeShapes Go.WideShapes Go.ChangeAt Go.RowKit _root_.Go.Proofs.Tryz
variable{w c:Zh}{b d g n base:Nat}{e f:Zj}{a:Zk}{P L u v T:Value}{V:List Nat}{k:List Ld}{j:List Kd}{l:List Pd}
theorem QB(R y d c:Int)(b G:Nat)(j:List (Kd×Value))(L:List Pd)(K:List Ld)(P N:Zk)(Q O:Nat)(E u o M:Int)(xa H:Zk)(Z cy:Nat)(s:Zi)(f ms:Zl)(w:Zh)(yV:E≠0)(hz:Bk w b 0 j)(zI:b<w.heap.size)(hq:Ad w w.heap.size xa (s::f))(hm:Ad w w.heap.size H ms)(xF:FT H ms.length cy)(vG:Lt w H)(tG:f.length+1<=Z)(tM:j.length<=600)(yN:∀z∈j,z.1.B.length<=30)(tK:f.length<=1048576)(tJ:ms.length<=100000):
 Calls prog 19 #[.agg (Yi R y d c (some ⟨b,0,none⟩) j.length G P L.length Q N K.length O),.agg (Ya E xa (f.length+1) Z H ms.length cy u o M)] w fun e w'=>LU w w' e R y d c (.slice P L.length Q) (.slice N K.length O) (j.map (·.1)) L K E u o M (s::f) ms b xa H j:=by
 have tC:(E==0)=false:=by simpa using yV
 obtain⟨x,F,rfl,xH,xG⟩:=hq.at (k:=0) (by simp);obtain⟨o1,vU,vA⟩:∃o1,((if Z=1 then some ⟨x,F,none⟩else some ⟨x,F+1,none⟩:Zk)=some ⟨x,o1,none⟩)/\∀i t,f[i]?=some t->w.cell? (Ze x (o1+i))=some (.string t):=by
  by_cases h1c:Z=1
  .have:f=[]:=List.eq_nil_of_length_eq_zero (by omega);subst this;exact⟨F,if_pos h1c,fun i t h=>by simp at h⟩
  .refine⟨F+1,if_neg h1c,fun i t h=> ?_⟩;have:=xG (i+1) t (by simpa using h);rw[show F+(i+1)=F+1+i by omega]at this;exact this
 obtain⟨W,hW⟩:∃W,W=((w.alloc (.cells (Yi R y d c (some ⟨b,0,none⟩) j.length G P L.length Q N K.length O) 40)).alloc (.cells (Ya E (some ⟨x,F,none⟩) (f.length+1) Z H ms.length cy u o M) 41)).alloc (.cells Xt 60):=⟨_,rfl⟩;have zH:Below w.heap.size w W:=by rw[hW];exact((Zy).alloc (by simp) _).alloc (by simp;omega) _
 have vI:W.heap.size=w.heap.size+3:=by rw[hW];simp
 have x2:Aa W (w.heap.size+2) DK:=by have h1:=Aa.new ((w.alloc (.cells (Yi R y d c (some ⟨b,0,none⟩) j.length G P L.length Q N K.length O) 40)).alloc (.cells (Ya E (some ⟨x,F,none⟩) (f.length+1) Z H ms.length cy u o M) 41)) DK 60;rw[hW];simpa [DK]using h1
 have x1:Aa W (w.heap.size+1) (Xs E (some ⟨x,F,none⟩) (f.length+1) Z H ms.length cy u o M):=by have h1:=Aa.new (w.alloc (.cells (Yi R y d c (some ⟨b,0,none⟩) j.length G P L.length Q N K.length O) 40)) (Xs E (some ⟨x,F,none⟩) (f.length+1) Z H ms.length cy u o M) 41;rw[World.size_alloc]at h1;rw[hW];exact Aa.below h1 (Zy)
 have x0:Aa W w.heap.size (Yj R y d c (some ⟨b,0,none⟩) j.length G P L.length Q N K.length O):=by have h1:=Aa.new w (Yj R y d c (some ⟨b,0,none⟩) j.length G P L.length Q N K.length O) 40;rw[hW];exact Aa.below (Aa.below h1 (Zy)) (Zy)
 have HW:=Yx hW;have tD:Hid (W.heap.size=w.heap.size+3):=vI;have yB:w.heap.size+3<=W.heap.size:=by omega
 clear hW vI;have V:Hid (∀X,Below (w.heap.size+3) W X->Aa X w.heap.size (Yj R y d c (some ⟨b,0,none⟩) j.length G P L.length Q N K.length O)/\Aa X (w.heap.size+1) (Xs E (some ⟨x,F,none⟩) (f.length+1) Z H ms.length cy u o M)/\Aa X (w.heap.size+2) DK):=fun X hX=>⟨Aa.same x0 (hX.block _ (by omega)),Aa.same x1 (hX.block _ (by omega)),Aa.same x2 (hX.block _ (by omega))⟩
 have c0:W.cell? (Ze x F)=some (.string s):=(zH.cell (p:=⟨x,F,none⟩) xH).trans (by simpa using xG 0 s rfl);obtain⟨xn,I,w1,vC,xW,yF⟩:=UK W (some ⟨x,o1,none⟩) (Z -1) f (.inr ⟨x,o1,rfl,Zr xH zH.size,fun i t h=>(zH.cell (p:=⟨x,o1+i,none⟩) xH).trans (vA i t h)⟩) (fun e=>by cases e) (by omega) 22
 have rA:(W.alloc (.cells #[] 9)).cell? (Ze (w.heap.size+1) 1)=some (.slice (some ⟨x,F,none⟩) (f.length+1) Z):=((Aa.below x1 (Zy)) 1 _ rfl).1;have zR:=Fp R y d c (some ⟨b,0,none⟩) G (.slice P L.length Q) (.slice N K.length O) (j.map (·.1)) s w1 w.heap.size (By.below (hz.dm zI) (zH.trans (yF.mono zH.size))) (Zm zH.size yF.size) (by rw[List.length_map];omega);rw[List.length_map]at zR;have HF:=Yx zR
 have U:=Yx (Zb hz (Zb hq hm));have yD:Hid (Below (w.heap.size+3) W w1):=yF.mono yB;have vO:Hid (Zz w W):=zH;have n:Hid (Aj w1 (w.heap.size+3) (Za xn f.length I) f):=xW.mono yB;have yI:Hid (∀z∈j,z.1.B.length<=30):=yN;have xI:w.heap.size+3<=w1.heap.size:=Zm yB yF.size;have yS:Below (w.heap.size+3) W W:=Below.refl _ _;obtain⟨i0,i1,i2,i3,i4,i5,i6⟩:=FX (AR (V.o _ yS).1)
 obtain⟨⟨r0,f0⟩,⟨r1,f1⟩,⟨r2,f2⟩,⟨r3,f3⟩,⟨r4,f4⟩,⟨r5,f5⟩⟩:=r6 (V.o _ yS).2.1;obtain⟨⟨u0,j0⟩,⟨u1,j1⟩,⟨u2,j2⟩,⟨u3,j3⟩,⟨u4,j4⟩,⟨u5,j5⟩,⟨u6,j6⟩,⟨u7,j7⟩,⟨u8,j8⟩,⟨u9,j9⟩,⟨zA,zT⟩,⟨zB,zU⟩,⟨zC,zV⟩,⟨zE,zW⟩,zF,zX⟩:=FE (V.o _ yS).2.2;clear hz hq hm x0 x1 x2 zH xW yF xG vA yN zR;go_enter func19,ntmps19;go_upto_region 1 with fail;rw[<-HW.o];clear HW
 go_upto_region 10 with(at_builtin;refine wpList_append_run rfl _ _ 22 22 rfl rfl rfl vC ?_);clear i0 i1 i2 i3 i4 i5 i6 r0 r1 r2 r3 r4 r5 f0 f1 f2 f3 f4 f5 u0 j0 u1 j1 u2 j2 u3 j3 u4 j4 u5 j5 u6 j6 u7 j7 u8 j8 u9 j9 zA zT zB zU zC zV zE zW zF zX vC yS c0 vU rA;obtain⟨i0,i1,i2,i3,i4,i5,i6⟩:=FX (AR (V.o _ yD.o).1);obtain⟨⟨r0,f0⟩,⟨r1,f1⟩,⟨r2,f2⟩,⟨r3,f3⟩,⟨r4,f4⟩,⟨r5,f5⟩⟩:=r6 (V.o _ yD.o).2.1
 obtain⟨⟨u0,j0⟩,⟨u1,j1⟩,⟨u2,j2⟩,⟨u3,j3⟩,⟨u4,j4⟩,⟨u5,j5⟩,⟨u6,j6⟩,⟨u7,j7⟩,⟨u8,j8⟩,⟨u9,j9⟩,⟨zA,zT⟩,⟨zB,zU⟩,⟨zC,zV⟩,⟨zE,zW⟩,zF,zX⟩:=FE (V.o _ yD.o).2.2;go_wp2_with fail;refine Calls.mono HF.o ?_;rintro e D ⟨rfl,yT⟩;have zM:Hid (Below (w.heap.size+3) W D):=yD.o.trans (yT.mono xI);have xQ:Hid (Aj D (w.heap.size+3) (Za xn f.length I) f):=n.o.below yT;have xJ:w.heap.size+3<=D.heap.size:=Zm xI yT.size
 have T:Hid (Zz w D):=vO.o.trans (zM.o.mono (by omega));clear i0 i1 i2 i3 i4 i5 i6 r0 r1 r2 r3 r4 r5 f0 f1 f2 f3 f4 f5 u0 j0 u1 j1 u2 j2 u3 j3 u4 j4 u5 j5 u6 j6 u7 j7 u8 j8 u9 j9 zA zT zB zU zC zV zE zW zF zX n yD yT HF xI;have n:=Yx xQ.o;clear xQ;obtain⟨i0,i1,i2,i3,i4,i5,i6⟩:=FX (AR (V.o _ zM.o).1);obtain⟨⟨r0,f0⟩,⟨r1,f1⟩,⟨r2,f2⟩,⟨r3,f3⟩,⟨r4,f4⟩,⟨r5,f5⟩⟩:=r6 (V.o _ zM.o).2.1
 obtain⟨⟨u0,j0⟩,⟨u1,j1⟩,⟨u2,j2⟩,⟨u3,j3⟩,⟨u4,j4⟩,⟨u5,j5⟩,⟨u6,j6⟩,⟨u7,j7⟩,⟨u8,j8⟩,⟨u9,j9⟩,⟨zA,zT⟩,⟨zB,zU⟩,⟨zC,zV⟩,⟨zE,zW⟩,zF,zX⟩:=FE (V.o _ zM.o).2.2;rcases Fc (j.map (·.1)) s with⟨yH,xZ⟩|⟨fi,fu,yH,xX,zR⟩
 .rw[yH];have HN:Hid (¬Av (j.map (·.1)) s):=xZ;clear xZ yH;go_wp2;refine bodyPost_ret (v:=.agg #[Zf,Zg R,Zg y,Zg d,Zg c,Za b j.length G,.slice P L.length Q,.slice N K.length O,Zg E,Za xn f.length I,.slice H ms.length cy,Zg u,Zg o,Zg M,Zc]) (by simp[results,results19,go_sem,u0,u1,u2,u3,u4,u5,u6,u7,u8,u9,zA,zB,zC,zE,zF]) rfl ?_
  have hT:=(AM D (w.heap.size+1) 1 (Za xn f.length I)).mono (V':=[w.heap.size+1,w.heap.size+2]) (by simp);refine LU.from (X:=D) [w.heap.size+1,w.heap.size+2] ?_ (hT.trans ((JU _ (w.heap.size+2) _ _ _ _ _ _ _ _ _ _ _ _ _ _ _).mono (by simp)));intro wf B;have r:=T.o.trans (B.below T.o.size (by simp));obtain⟨a,cc,e1,hS⟩:=(n.o.Y B (fun g m e=>by have:=(n.o.S m).1;simp at e;omega)).row;cases e1
  have yE:=Ad.j U.o.2.2 r;exact⟨⟨⟨j.map (·.1),E,u,o,M,f,ms,[]⟩,b,G,j,_,_,none,_,_,0,rfl,.mark yV s f _ _ rfl (.inl ⟨.inl HN.o,rfl,rfl⟩),rfl,U.o.1.below r zI,Zr zI r.size,hS,yE,.inl rfl,⟨(fun p e=>by cases e;exact .inl rfl),Du.own n.o (by omega),(fun p e=> .inr (.inr (.inl ⟨p,e,rfl⟩))),Du.no⟩,fun z hz=>hz,n.o.cap,xF,n.o.iw.mono B.size,vG.mono r.size⟩,r⟩
 .rw[yH];have xM:decide ((fi:Int)<0)=false:=by simp
  have vT:decide ((0:Int)<=fi)=true:=by simp
  have xA:Hid ((j.map (·.1))[fi]?=some fu/\fu.sum=s):=⟨xX,zR⟩;have HC:=Yx (Gd H cy ms s D D.heap.size (Ad.j U.o.2.2 T.o) (by omega));clear yH xX zR;go_wp2_with fail;refine Calls.mono HC.o ?_;rintro e w9 ⟨rfl,vF⟩;rw[vF];clear vF HC w9;by_cases J:s∈ms
  .have S:ms.any (fun x=>decide (x=s))=true:=List.any_eq_true.2 ⟨s,J,by simp⟩;rw[S];clear S;go_wp2;refine bodyPost_ret (v:=.agg #[Zf,Zg R,Zg y,Zg d,Zg c,Za b j.length G,.slice P L.length Q,.slice N K.length O,Zg E,Za xn f.length I,.slice H ms.length cy,Zg u,Zg o,Zg M,Zc]) (by simp[results,results19,go_sem,u0,u1,u2,u3,u4,u5,u6,u7,u8,u9,zA,zB,zC,zE,zF]) rfl ?_
   have hT:=(AM D (w.heap.size+1) 1 (Za xn f.length I)).mono (V':=[w.heap.size+1,w.heap.size+2]) (by simp);refine LU.from (X:=D) [w.heap.size+1,w.heap.size+2] ?_ (hT.trans ((JU _ (w.heap.size+2) _ _ _ _ _ _ _ _ _ _ _ _ _ _ _).mono (by simp)));intro wf B;have r:=T.o.trans (B.below T.o.size (by simp));obtain⟨a,cc,e1,hS⟩:=(n.o.Y B (fun g m e=>by have:=(n.o.S m).1;simp at e;omega)).row;cases e1
   have yE:=Ad.j U.o.2.2 r;exact⟨⟨⟨j.map (·.1),E,u,o,M,f,ms,[]⟩,b,G,j,_,_,none,_,_,0,rfl,.mark yV s f _ _ rfl (.inl ⟨.inr J,rfl,rfl⟩),rfl,U.o.1.below r zI,Zr zI r.size,hS,yE,.inl rfl,⟨(fun p e=>by cases e;exact .inl rfl),Du.own n.o (by omega),(fun p e=> .inr (.inr (.inl ⟨p,e,rfl⟩))),Du.no⟩,fun z hz=>hz,n.o.cap,xF,n.o.iw.mono B.size,vG.mono r.size⟩,r⟩
  .have S:ms.any (fun x=>decide (x=s))=false:=by simp;exact fun x hx e=>J (e▸hx)
   rw[S];have xL:Hid (s∉ms):=J;clear S J;obtain⟨y2,tF,w3,vD,xD,yG⟩:=UK D H cy ms (Ad.j U.o.2.2 T.o) xF.2 (by omega) 22;have bA:Below w3.heap.size w3 (w3.alloc (.cells #[.string s] 9)):=Zy;obtain⟨M',w4,vE,yR,xY,vV⟩:=IN (w3.alloc (.cells #[.string s] 9)) D.heap.size _ ms (xD.below bA) ⟨w3.heap.size,0,none⟩ 1 s (by simp[go_sem]) (by omega) (by have:=yG.size;simp;omega) 22;obtain⟨A,l,xV,_⟩:=yR.row
   rw[List.length_append,List.length_cons,List.length_nil,Nat.zero_add]at xV;subst xV;have zN:Below D.heap.size D w4:=(yG.trans (bA.mono yG.size)).grown xY (by have:=yG.size;simp;omega) (fun k hk=>((xD.below bA).S hk).1);have xC:Hid (Below (w.heap.size+3) W w4):=zM.o.trans (zN.mono xJ);have xB:Hid (Aj w4 (w.heap.size+3) (Za xn f.length I) f):=n.o.below zN
   have yM:∀g,Af (Za xn f.length I)=some g->g<D.heap.size:=fun g m=>(n.o.S m).2;have yA:∀g,Af (.slice A (ms.length+1) l)=some g->D.heap.size<=g:=fun g m=>(yR.S m).1;obtain⟨X,hX⟩:∃X,X=w4.setCell (Ze (w.heap.size+1) 2) (.slice A (ms.length+1) l):=⟨_,rfl⟩;have zO:Tn [w.heap.size+1] w4 X:=by rw[hX];exact AM _ _ _ _
   have yW:Hid (Aj X (w.heap.size+3) (Za xn f.length I) f/\Aj X (w.heap.size+3) (.slice A (ms.length+1) l) (ms++[s])/\(∀g,Af (Za xn f.length I)=some g->Af (.slice A (ms.length+1) l)≠some g)):=
    ⟨xB.o.Y zO (fun g m e=>by have:=(xB.o.S m).1;simp at e;omega),(yR.Y zO (fun g m e=>by have:=yA g m;simp at e;omega)).mono xJ,fun g m yU=>by have:=yM g m;have:=yA g yU;omega⟩
   have yC:Hid (∀Y,Below (w.heap.size+3) X Y->Aa Y w.heap.size (Yj R y d c (some ⟨b,0,none⟩) j.length G P L.length Q N K.length O)/\Aa Y (w.heap.size+1) (Xs E (some ⟨x,F,none⟩) (f.length+1) Z A (ms.length+1) l u o M)/\Aa Y (w.heap.size+2) DK):=fun Y hY=>by
    have h4:=V.o _ xC.o;have tI:w.heap.size+3<=w4.heap.size:=Zm xJ zN.size;have e0:Aa X w.heap.size (Yj R y d c (some ⟨b,0,none⟩) j.length G P L.length Q N K.length O):=Aa.same h4.1 (zO.block _ (by omega) (by simp));have e2:Aa X (w.heap.size+2) DK:=Aa.same h4.2.2 (zO.block _ (by omega) (by simp))
    have e1:Aa X (w.heap.size+1) (Xs E (some ⟨x,F,none⟩) (f.length+1) Z A (ms.length+1) l u o M):=by rw[hX];exact h4.2.1.set 2 _
    exact⟨Aa.same e0 (hY.block _ (by omega)),Aa.same e1 (hY.block _ (by omega)),Aa.same e2 (hY.block _ (by omega))⟩
   have yZ:Hid (Zz w X):=(T.o.trans (zN.mono T.o.size)).trans (zO.below (Zm T.o.size zN.size) (by simp));obtain⟨⟨n0,m0⟩,⟨n1,m1⟩,⟨n2,m2⟩,⟨n3,m3⟩,⟨n4,m4⟩,⟨n5,m5⟩⟩:=r6 (V.o _ xC.o).2.1;have xS:=Yx hX;have vJ:w.heap.size+3<=X.heap.size:=by have:=zO.size;have:=zN.size;omega
   have rB:(D.alloc (.cells #[] 9)).cell? (Ze (w.heap.size+1) 2)=some (.slice H ms.length cy):=((Aa.below (V.o _ zM.o).2.1 (Zy)) 2 _ rfl).1;clear hX zO xB yM yA zN bA xD yR xY vV yG;go_upto_region 13 with(first
    |(at_builtin;refine wpList_append_run rfl _ _ 22 22 rfl rfl rfl vD ?_)
    |(at_builtin;refine wpList_append_run rfl _ _ 22 22 rfl rfl rfl vE ?_))
   clear rB vD vE i0 i1 i2 i3 i4 i5 i6 r0 r1 r2 r3 r4 r5 f0 f1 f2 f3 f4 f5 u0 j0 u1 j1 u2 j2 u3 j3 u4 j4 u5 j5 u6 j6 u7 j7 u8 j8 u9 j9 zA zT zB zU zC zV zE zW zF zX;rw[<-xS.o];clear xS n0 n1 n2 n3 n4 n5 m0 m1 m2 m3 m4 m5 xC V zM n T;obtain⟨z,zS,vK⟩:∃z,j[fi]?=some z/\z.1=fu:=by have:=xA.o.1;rw[List.getElem?_map]at this;obtain⟨z,h1,h2⟩:=Option.map_eq_some_iff.1 this;exact⟨z,h1,h2⟩
   have tB:fi<j.length:=(Zw zS).1;have tL:z.1.B.length<=30:=yI.o z (Zs zS);obtain⟨⟨_,_,_,vH⟩,ad,rc,xK,tA⟩:=(U.o.1.below yZ.o zI) fi z zS;rw[xK,Nat.zero_add]at vH;have vQ:Hid (∀Y,Below (w.heap.size+3) X Y->Ad Y Y.heap.size (some ad) z.1.B):=fun Y hY=>Ad.j (w:=w) (by
    obtain⟨_,tE,tN,yO,xO⟩:=U.o.1 fi z zS;rw[xK]at yO;cases yO;exact xO) (yZ.o.trans (hY.mono (by omega)))
   have xR:Hid (z.1∈j.map (·.1)/\z.1.sum=s):=⟨List.mem_map.2 ⟨z,Zs zS,rfl⟩,by rw[vK];exact xA.o.2⟩;have yK:Below (w.heap.size+3) X X:=Below.refl _ _;obtain⟨i0,i1,i2,i3,i4,i5,i6⟩:=FX (AR (yC.o _ yK).1);clear xK tA zS vK xA yI vT xM
   have vP:Hid (∀Y v,Aj Y (w.heap.size+3) (.slice A (ms.length+1) l) (ms++[s])->Calls prog 51 #[.slice A (ms.length+1) l,.string v] Y fun e w'=>e=.returned (.bool ((ms++[s]).any (fun x=>decide (x=v))))/\w'=Y):=fun Y v hY=>by obtain⟨a2,c2,e2,vW⟩:=hY.row;rw[List.length_append,List.length_cons,List.length_nil,Nat.zero_add]at e2;cases e2;have:=Gd A l (ms++[s]) v Y Y.heap.size vW (by rw[List.length_append];simp;omega);rw[List.length_append,List.length_cons,List.length_nil,Nat.zero_add]at this;exact this
   go_wp2
   go_loopw [6,9] (fun v i wr=>∃(k:Nat) (Qk:Value),k<=z.1.B.length/\i=Zg k/\v=Qk/\Hid (Aj wr (w.heap.size+3) Qk (f++fresh (ms++[s]) (z.1.B.take k))/\Aj wr (w.heap.size+3) (.slice A (ms.length+1) l) (ms++[s])/\(∀g,Af Qk=some g->Af (.slice A (ms.length+1) l)≠some g)/\Below (w.heap.size+3) X wr)) (fun _ i _=>z.1.B.length -(intOf i).toNat)
   case atStart=>exact⟨0,_,Nat.zero_le _,rfl,rfl,by simpa [fresh]using yW.o.1,yW.o.2.1,yW.o.2.2,yK⟩
   case round=>
    clear yW i0 i1 i2 i3 i4 i5 i6 vH;obtain⟨k,Qk,hk,rfl,hv,C⟩:=hrel;have vX:=hv.symm;subst vX;clear hv;by_cases hlt:k<z.1.B.length
    .obtain⟨rb,vM,ha,hb,hc⟩:=(vQ.o _ C.o.2.2.2).at hlt;cases ha;have HG:Hid (z.1.B[k]?=some z.1.B[k]):=Zv hlt;have c0:=hc k _ HG.o;have xP:=Yx (LY (ms:=ms++[s]) HG.o);have vS:(f++fresh (ms++[s]) (z.1.B.take k)).length<=1048606:=by have:(fresh (ms++[s]) (z.1.B.take k)).length<=(z.1.B.take k).length:=List.length_filter_le _ _;simp at this |-;omega
     clear hc;generalize z.1.B[k]=v at *
     generalize hO:f++fresh (ms++[s]) (z.1.B.take k)=qk at *
     have HO:=Yx hO;clear hO;obtain⟨⟨_,_⟩,⟨_,_⟩,⟨r2,_⟩,_⟩:=r6 (yC.o _ C.o.2.2.2).2.1;have S0:wr.drew.cell? (Ze (w.heap.size+1) 2)=some (.slice A (ms.length+1) l)/\wr.drew.cell? (Ze rb (vM+k))=some (.string v):=⟨r2,c0⟩;have HD:Hid (Aj wr.drew (w.heap.size+3) (.slice A (ms.length+1) l) (ms++[s])):=C.o.2.1.below ((Below.refl _ _).drew);have tH:(k:Int)<z.1.B.length:=by omega
     obtain⟨bb,xE⟩:∃bb,(ms++[s]).any (fun x=>decide (x=v))=bb:=⟨_,rfl⟩;have zG:=vP.o wr.drew v HD.o;rw[xE]at zG;have zP:=Yx zG;have yP:Hid ((ms++[s]).any (fun x=>decide (x=v))=bb):=xE;clear r2 c0 xE zG;go_upto_region 17 with fail;go_region_held3 (fun Y=>Y.cell? (Ze (w.heap.size+1) 2)=some (.slice A (ms.length+1) l)/\Y.cell? (Ze rb (vM+k))=some (.string v))
      (first|with_reducible exact S0)
      (first
        |(go_at_call 51;refine Calls.mono zP.o ?_;rintro e zJ ⟨rfl,xN⟩;subst xN))
     have bD:Below wr.heap.size wr wr.drew:=(Below.refl _ _).drew;have zZ:Hid (Aj wr.drew (w.heap.size+3) Qk qk):=C.o.1.below bD;have zY:Hid (Below (w.heap.size+3) X wr.drew):=C.o.2.2.2.drew;have yY:=Yx C.o.2.2.1;have vL:w.heap.size+3<=wr.drew.heap.size:=Zm vJ zY.o.size;obtain⟨_,c0⟩:=S0;clear C bD zP;generalize wr.drew=zJ at *
     cases bb with
     |true=>
      have J:v∈ms++[s]:=by obtain⟨x,hx,e⟩:=List.any_eq_true.1 yP.o;simp at e;exact e▸hx
      have HE:Hid (f++fresh (ms++[s]) (z.1.B.take (k+1))=qk):=by show _=_;rw[xP.o.1 J];exact HO.o
      clear yP J c0;go_wp2;exact⟨⟨k+1,Qk,by omega,by go_num,rfl,⟨by rw[HE.o];exact zZ.o,HD.o,yY.o,zY.o⟩⟩,by simp[intOf];omega⟩
     |false=>
      have J:¬v∈ms++[s]:=fun e=>by have:=List.any_eq_false.1 yP.o v e;simp at this
      have HE:Hid (f++fresh (ms++[s]) (z.1.B.take (k+1))=qk++[v]):=by show _=_;rw[xP.o.2 J,<-List.append_assoc,HO.o]
      have bA:Below zJ.heap.size zJ (zJ.alloc (.cells #[.string v] 9)):=Zy;obtain⟨Q',yX,hr,yJ,zK,yL⟩:=IN (zJ.alloc (.cells #[.string v] 9)) (w.heap.size+3) Qk qk (zZ.o.below bA) ⟨zJ.heap.size,0,none⟩ 1 v (by simp[go_sem]) (by omega) (by simp;omega) 22;have xT:Below (w.heap.size+3) zJ yX:=(bA.mono vL).grown zK (by simp;omega) (fun q e=>(zZ.o.S e).1)
      have xU:∀g,Af (.slice A (ms.length+1) l)=some g->g<zJ.heap.size:=fun g m=>(HD.o.S m).2;have yQ:Hid (Aj yX (w.heap.size+3) Q' (qk++[v])/\Aj yX (w.heap.size+3) (.slice A (ms.length+1) l) (ms++[s])/\(∀g,Af Q'=some g->Af (.slice A (ms.length+1) l)≠some g)/\Below (w.heap.size+3) X yX):=by
       refine⟨yJ,(HD.o.below bA).stays zK.size (fun g m=>zK.block g (by have:=xU g m;simp;omega) (fun e=>yY.o g e.symm m)),fun g m yU=> ?_,zY.o.trans xT⟩;rcases yL with e|e
       .exact yY.o g (e▸m) yU
       .rw[e]at m;cases m;have:=xU _ yU;simp only[World.size_alloc]at this;omega
      clear yP J yJ zK yL xT bA;go_wp2_with (at_builtin;refine wpList_append_run rfl _ _ 22 22 rfl rfl rfl hr ?_);clear hr;go_wp2;exact⟨⟨k+1,Q',by omega,by go_num,rfl,⟨by rw[HE.o];exact yQ.o.1,yQ.o.2.1,yQ.o.2.2.1,yQ.o.2.2.2⟩⟩,by simp[intOf];omega⟩
    .obtain rfl:k=z.1.B.length:=by omega
     have hE:=C.o.1;rw[Zt (Zx)]at hE;have HE:=Yx hE;obtain⟨qa,qc,vR,_⟩:=hE.row;have vS:(f++fresh (ms++[s]) z.1.B).length<=1048606:=by have:(fresh (ms++[s]) z.1.B).length<=z.1.B.length:=List.length_filter_le _ _;simp at this |-;omega
     subst vR;have T:Hid (Zz w wr):=yZ.o.trans (C.o.2.2.2.mono (by omega));obtain⟨i0,i1,i2,i3,i4,i5,i6⟩:=FX (AR (yC.o _ C.o.2.2.2).1);obtain⟨⟨r0,f0⟩,⟨r1,f1⟩,⟨r2,f2⟩,⟨r3,f3⟩,⟨r4,f4⟩,⟨r5,f5⟩⟩:=r6 (yC.o _ C.o.2.2.2).2.1;obtain⟨⟨u0,j0⟩,⟨u1,j1⟩,⟨u2,j2⟩,⟨u3,j3⟩,⟨u4,j4⟩,⟨u5,j5⟩,⟨u6,j6⟩,⟨u7,j7⟩,⟨u8,j8⟩,⟨u9,j9⟩,⟨zA,zT⟩,⟨zB,zU⟩,⟨zC,zV⟩,⟨zE,zW⟩,zF,zX⟩:=FE (yC.o _ C.o.2.2.2).2.2
     have vL:w.heap.size+3<=wr.heap.size:=Zm vJ C.o.2.2.2.size;generalize hqq:f++fresh (ms++[s]) z.1.B=qq at *
     clear hE;go_wp2;refine bodyPost_ret (v:=.agg #[Zf,Zg R,Zg y,Zg d,Zg c,Za b j.length G,.slice P L.length Q,.slice N K.length O,Zg E,.slice qa qq.length qc,.slice A (ms.length+1) l,Zg u,Zg o,Zg M,Zc]) (by simp[results,results19,go_sem,u0,u1,u2,u3,u4,u5,u6,u7,u8,u9,zA,zB,zC,zE,zF]) rfl ?_
     have hT:=(AM wr (w.heap.size+1) 1 (.slice qa qq.length qc)).mono (V':=[w.heap.size+1,w.heap.size+2]) (by simp);refine LU.from (X:=wr) [w.heap.size+1,w.heap.size+2] ?_ (hT.trans ((JU _ (w.heap.size+2) _ _ _ _ _ _ _ _ _ _ _ _ _ _ _).mono (by simp)));intro wf B;have r:=T.o.trans (B.below T.o.size (by simp));obtain⟨a,cc,e1,hS⟩:=(HE.o.Y B (fun g m e=>by have:=(HE.o.S m).1;simp at e;omega)).row
     cases e1;obtain⟨ma,mc,e2,yE⟩:=(C.o.2.1.Y B (fun g m e=>by have:=(C.o.2.1.S m).1;simp at e;omega)).row;rw[List.length_append,List.length_cons,List.length_nil,Nat.zero_add]at e2;cases e2
     exact⟨⟨⟨j.map (·.1),E,u,o,M,qq,(ms++[s]),[]⟩,b,G,j,_,_,none,qc,l,0,(by simp),.mark yV s f _ _ rfl (.inr ⟨z.1,xR.o.1,xR.o.2,xL.o,rfl,hqq.symm⟩),rfl,U.o.1.below r zI,Zr zI r.size,hS,yE,.inl rfl,⟨(fun p e=>by cases e;exact .inl rfl),Du.own HE.o (by omega),Du.own C.o.2.1 (by omega),Du.no⟩,fun z hz=>hz,HE.o.cap,C.o.2.1.cap,HE.o.iw.mono B.size,C.o.2.1.iw.mono B.size⟩,r⟩
theorem KD{e:List (Kd×Value)}(h:Bk w b d e)(a:c.heap[b]?=w.heap[b]?)(n:∀z∈e,∃f o,z.2=.slice (some f) z.1.B.length o/\Ad c c.heap.size (some f) z.1.B):Bk c b d e:=by intro i z g;obtain⟨⟨j,k,l,m⟩,_⟩:=h i z g;exact⟨⟨(World.cell?_of_block a).trans j,(World.cell?_of_block a).trans k,(World.cell?_of_block a).trans l,(World.cell?_of_block a).trans m⟩,n z (Zs g)⟩
theorem Px(G o d a:Int)(b H:Nat)(f:List (Kd×Value))(u:List Pd)(q:List Ld)(C B:Zk)(F E:Nat)(ph A L D:Int)(J I:Zk)(S R:Nat)(t:Zl)(w:Zh)(zW:ph≠0)(hz:Bk w b 0 f)(Y:b<w.heap.size)(yG:FT J 0 S)(yH:Lt w J)(hp:AG w w.heap.size C u)(hl:AI w w.heap.size B q)(hm:Ad w w.heap.size I t)(yF:FT I t.length R)(yI:Lt w I)(xK:f.length<=600)(xH:u.length<=100)(xG:q.length<=200)(zX:∀z∈f,z.1.B.length<=30)(xT:t.length<=100000)(xN:0<=D)(xO:D<=1000000000):
 Calls prog 19 #[.agg (Yi G o d a (some ⟨b,0,none⟩) f.length H C u.length F B q.length E),.agg (Ya ph J 0 S I t.length R A L D)] w fun e w'=>LU w w' e G o d a (.slice C u.length F) (.slice B q.length E) (f.map (·.1)) u q ph A L D [] t b J I f:=by
 have xM:(ph==0)=false:=by simpa using zW
 obtain⟨W,hW⟩:∃W,W=((w.alloc (.cells (Yi G o d a (some ⟨b,0,none⟩) f.length H C u.length F B q.length E) 40)).alloc (.cells (Ya ph J 0 S I t.length R A L D) 41)).alloc (.cells Xt 60):=⟨_,rfl⟩;have yE:Below w.heap.size w W:=by rw[hW];exact((Zy).alloc (by simp) _).alloc (by simp;omega) _
 have yY:W.heap.size=w.heap.size+3:=by rw[hW];simp
 have x2:Aa W (w.heap.size+2) DK:=by have h1:=Aa.new ((w.alloc (.cells (Yi G o d a (some ⟨b,0,none⟩) f.length H C u.length F B q.length E) 40)).alloc (.cells (Ya ph J 0 S I t.length R A L D) 41)) DK 60;rw[hW];simpa [DK]using h1
 have x1:Aa W (w.heap.size+1) (Xs ph J 0 S I t.length R A L D):=by have h1:=Aa.new (w.alloc (.cells (Yi G o d a (some ⟨b,0,none⟩) f.length H C u.length F B q.length E) 40)) (Xs ph J 0 S I t.length R A L D) 41;rw[World.size_alloc]at h1;rw[hW];exact Aa.below h1 (Zy)
 have x0:Aa W w.heap.size (Yj G o d a (some ⟨b,0,none⟩) f.length H C u.length F B q.length E):=by have h1:=Aa.new w (Yj G o d a (some ⟨b,0,none⟩) f.length H C u.length F B q.length E) 40;rw[hW];exact Aa.below (Aa.below h1 (Zy)) (Zy)
 have HW:=Yx hW;have xQ:Hid (W.heap.size=w.heap.size+3):=yY;have xP:w.heap.size+3<=W.heap.size:=by omega
 clear hW yY;obtain⟨W1,zY⟩:∃W1,W1=W.setCell (Ze (w.heap.size+1) 0) (Zg 2):=⟨_,rfl⟩;have zU:Tn [w.heap.size+1] W W1:=by rw[zY];exact AM _ _ _ _
 have xU:W.heap.size<=W1.heap.size:=zU.size;have zV:Below w.heap.size w W1:=yE.trans (zU.below yE.size (by simp))
 have H1:Hid (Aa W1 w.heap.size (Yj G o d a (some ⟨b,0,none⟩) f.length H C u.length F B q.length E)/\Aa W1 (w.heap.size+1) (Xs 2 J 0 S I t.length R A L D)/\Aa W1 (w.heap.size+2) DK):=⟨Aa.same x0 (zU.block _ (by omega) (by simp)),(by rw[zY];exact x1.set 0 _),Aa.same x2 (zU.block _ (by omega) (by simp))⟩;have yN:=Yx zY;have K:=Yx (Zb hz (Zb hp (Zb hl (Zb zX hm))))
 have yC:Hid (Ad w w.heap.size J []):=.inl rfl;have HN:=SE G o d a L (some ⟨b,0,none⟩) H (.slice C u.length F) (.slice B q.length E) (f.map (·.1)) W1 (By.mono (By.below (hz.dm Y) zV) zV.size) (by rw[List.length_map];omega);rw[List.length_map]at HN;have yZ:=Yx HN
 have H0:(Aa W w.heap.size (Yj G o d a (some ⟨b,0,none⟩) f.length H C u.length F B q.length E)/\Aa W (w.heap.size+1) (Xs ph J 0 S I t.length R A L D)/\Aa W (w.heap.size+2) DK):=⟨x0,x1,x2⟩;obtain⟨i0,i1,i2,i3,i4,i5,i6⟩:=FX (AR H0.1);obtain⟨⟨r0,f0⟩,⟨r1,f1⟩,⟨r2,f2⟩,⟨r3,f3⟩,⟨r4,f4⟩,⟨r5,f5⟩⟩:=r6 H0.2.1
 obtain⟨⟨y0,q0⟩,⟨y1,q1⟩,⟨y2,q2⟩,⟨y3,q3⟩,⟨y4,q4⟩,⟨y5,q5⟩,⟨y6,q6⟩,⟨y7,q7⟩,⟨y8,q8⟩,⟨y9,q9⟩,⟨M,zE⟩,⟨N,zF⟩,⟨O,zG⟩,⟨P,zH⟩,Q,zI⟩:=FE H0.2.2;clear zY hz hp hl hm x0 x1 x2 zU yE zX HN H0;go_enter func19,ntmps19;go_upto_region 1 with fail;rw[<-HW.o];clear HW;go_upto_region 22 with fail;rw[<-yN.o]
 clear yN i0 i1 i2 i3 i4 i5 i6 r0 r1 r2 r3 r4 r5 f0 f1 f2 f3 f4 f5 y0 q0 y1 q1 y2 q2 y3 q3 y4 q4 y5 q5 y6 q6 y7 q7 y8 q8 y9 q9 M zE N zF O zG P zH Q zI;obtain⟨i0,i1,i2,i3,i4,i5,i6⟩:=FX (AR H1.o.1);obtain⟨⟨r0,f0⟩,⟨r1,f1⟩,⟨r2,f2⟩,⟨r3,f3⟩,⟨r4,f4⟩,⟨r5,f5⟩⟩:=r6 H1.o.2.1;obtain⟨⟨y0,q0⟩,⟨y1,q1⟩,⟨y2,q2⟩,⟨y3,q3⟩,⟨y4,q4⟩,⟨y5,q5⟩,⟨y6,q6⟩,⟨y7,q7⟩,⟨y8,q8⟩,⟨y9,q9⟩,⟨M,zE⟩,⟨N,zF⟩,⟨O,zG⟩,⟨P,zH⟩,Q,zI⟩:=FE H1.o.2.2
 go_wp2_with fail;refine Calls.mono yZ.o ?_;rintro e w2 ⟨r,rfl,yV,zP⟩;have H2:=Yx (Zb (Aa.below H1.o.1 zP) (Zb (Aa.below H1.o.2.1 zP) (Aa.below H1.o.2.2 zP)));have zK:Hid (Zz w w2):=zV.trans (zP.mono zV.size);have xV:w.heap.size+3<=w2.heap.size:=by have:=zP.size;omega
 have yB:Hid (Dt (f.map (·.1)) L r):=yV;clear i0 i1 i2 i3 i4 i5 i6 r0 r1 r2 r3 r4 r5 f0 f1 f2 f3 f4 f5 y0 q0 y1 q1 y2 q2 y3 q3 y4 q4 y5 q5 y6 q6 y7 q7 y8 q8 y9 q9 M zE N zF O zG P zH Q zI H1 zP yV zV;obtain⟨i0,i1,i2,i3,i4,i5,i6⟩:=FX (AR H2.o.1);obtain⟨⟨r0,f0⟩,⟨r1,f1⟩,⟨r2,f2⟩,⟨r3,f3⟩,⟨r4,f4⟩,⟨r5,f5⟩⟩:=r6 H2.o.2.1
 obtain⟨⟨y0,q0⟩,⟨y1,q1⟩,⟨y2,q2⟩,⟨y3,q3⟩,⟨y4,q4⟩,⟨y5,q5⟩,⟨y6,q6⟩,⟨y7,q7⟩,⟨y8,q8⟩,⟨y9,q9⟩,⟨M,zE⟩,⟨N,zF⟩,⟨O,zG⟩,⟨P,zH⟩,Q,zI⟩:=FE H2.o.2.2;rcases yB.o with⟨rfl,yU⟩|⟨i,k,rfl,yA,yS,yT⟩
 .have xA:Hid (∀y∈f.map (·.1),¬y.born<L):=yU;clear yU yB;go_wp2;refine bodyPost_ret (v:=.agg #[Zf,Zg G,Zg o,Zg d,Zg a,Za b f.length H,.slice C u.length F,.slice B q.length E,Zf,Zc,Zc,Zf,Zf,Zg (D+1),Zc]) (by simp[results,results19,go_sem,y0,y1,y2,y3,y4,y5,y6,y7,y8,y9,M,N,O,P,Q]) rfl ?_;refine LU.from (X:=w2) [w.heap.size+2] ?_ (JU w2 (w.heap.size+2) _ _ _ _ _ _ _ _ _ _ _ _ _ _ _);intro wf T
  have l:=zK.o.trans (T.below zK.o.size (by simp));exact⟨⟨⟨f.map (·.1),0,0,0,D+1,[],[],[]⟩,b,H,f,_,_,none,_,_,0,rfl,.rest zW rfl (fun y hy=>Int.not_lt.2 (xA.o y hy)),rfl,K.o.1.below l Y,Zr Y l.size,.inl rfl,.inl rfl,.inl rfl,⟨(fun p e=>by cases e;exact .inl rfl),Du.no,Du.no,Du.no⟩,fun z hz=>hz,⟨Zx,fun _=>⟨rfl,rfl⟩⟩,⟨Zx,fun _=>⟨rfl,rfl⟩⟩,Lt.no,Lt.no⟩,l⟩
 .obtain⟨z,yJ,xJ⟩:∃z,f[i]?=some z/\z.1=k:=by rw[List.getElem?_map]at yA;obtain⟨z,h1,h2⟩:=Option.map_eq_some_iff.1 yA;exact⟨z,h1,h2⟩
  subst xJ;have HY:Hid (Gs (f.map (·.1)) L z.1):=⟨Zs yA,yS,yT⟩;have xS:i<f.length:=(Zw yJ).1;have xL:¬((i:Int)<0):=by omega
  obtain⟨⟨d0,d1,_,_⟩,_⟩:=(K.o.1.below zK.o Y) i z yJ;rw[Nat.zero_add]at d0 d1;obtain⟨U,zZ⟩:∃U,U=w2.setCell (Ze (w.heap.size+1) 4) (Zg z.1.born):=⟨_,rfl⟩;have zN:Tn [w.heap.size+1] w2 U:=by rw[zZ];exact AM _ _ _ _
  have yD:Below w.heap.size w U:=zK.o.trans (zN.below zK.o.size (by simp));have H3:Hid (Aa U w.heap.size (Yj G o d a (some ⟨b,0,none⟩) f.length H C u.length F B q.length E)/\Aa U (w.heap.size+1) (Xs 2 J 0 S I t.length R A z.1.born D)/\Aa U (w.heap.size+2) DK):=⟨Aa.same H2.o.1 (zN.block _ (by omega) (by simp)),(by rw[zZ];exact H2.o.2.1.set 4 _),Aa.same H2.o.2.2 (zN.block _ (by omega) (by simp))⟩
  have e0:U.cell? (Ze b (i *4))=some (.string z.1.sum):=(World.cell?_of_block (zN.block b (by have:=zK.o.size;omega) (by simp;omega))).trans d0;have yO:=Yx zZ;have yX:w.heap.size+3<=U.heap.size:=by have:=zN.size;omega
  clear zZ zN yA yS yT yB yJ;go_upto_region 26 with fail;rw[<-yO.o];clear yO d0 d1 i0 i1 i2 i3 i4 i5 i6 r0 r1 r2 r3 r4 r5 f0 f1 f2 f3 f4 f5 y0 q0 y1 q1 y2 q2 y3 q3 y4 q4 y5 q5 y6 q6 y7 q7 y8 q8 y9 q9 M zE N zF O zG P zH Q zI;obtain⟨i0,i1,i2,i3,i4,i5,i6⟩:=FX (AR H3.o.1);obtain⟨⟨r0,f0⟩,⟨r1,f1⟩,⟨r2,f2⟩,⟨r3,f3⟩,⟨r4,f4⟩,⟨r5,f5⟩⟩:=r6 H3.o.2.1
  obtain⟨⟨y0,q0⟩,⟨y1,q1⟩,⟨y2,q2⟩,⟨y3,q3⟩,⟨y4,q4⟩,⟨y5,q5⟩,⟨y6,q6⟩,⟨y7,q7⟩,⟨y8,q8⟩,⟨y9,q9⟩,⟨M,zE⟩,⟨N,zF⟩,⟨O,zG⟩,⟨P,zH⟩,Q,zI⟩:=FE H3.o.2.2;have HC:=Yx (Gd I R t z.1.sum U U.heap.size (Ad.j K.o.2.2.2.2 yD) (by omega));have V:Hid (Zz w U):=yD;go_wp2_with fail;refine Calls.mono HC.o ?_;rintro e w9 ⟨rfl,yW⟩;rw[yW];clear yW HC w9 yD e0;by_cases hin:z.1.sum∈t
  .have zA:t.any (fun x=>decide (x=z.1.sum))=true:=List.any_eq_true.2 ⟨z.1.sum,hin,by simp⟩;rw[zA];clear zA;go_wp2;refine bodyPost_ret (v:=.agg #[Zf,Zg G,Zg o,Zg d,Zg a,Za b f.length H,.slice C u.length F,.slice B q.length E,Zg 2,.slice J 0 S,.slice I t.length R,Zg A,Zg z.1.born,Zg D,Zc]) (by simp[results,results19,go_sem,y0,y1,y2,y3,y4,y5,y6,y7,y8,y9,M,N,O,P,Q]) rfl ?_
   refine LU.from (X:=U) [w.heap.size+2] ?_ (JU U (w.heap.size+2) _ _ _ _ _ _ _ _ _ _ _ _ _ _ _);intro wf T;have l:=V.o.trans (T.below V.o.size (by simp))
   exact⟨⟨⟨f.map (·.1),2,A,z.1.born,D,[],t,[]⟩,b,H,f,_,_,none,_,_,0,rfl,.ah zW rfl z.1 HY.o (.inl hin),rfl,K.o.1.below l Y,Zr Y l.size,yC.o.j l,K.o.2.2.2.2.j l,.inl rfl,⟨(fun p e=>by cases e;exact .inl rfl),(fun p e=> .inr (.inl ⟨p,e,rfl⟩)),(fun p e=> .inr (.inr (.inl ⟨p,e,rfl⟩))),Du.no⟩,fun z hz=>hz,yG,yF,yH.mono l.size,yI.mono l.size⟩,l⟩
  .have zA:t.any (fun x=>decide (x=z.1.sum))=false:=by simp;exact fun x hx e=>hin (e▸hx)
   rw[zA];have yK:Hid (z.1.sum∉t):=hin;have HD:=LI G o d a b 0 H F E C B f u q z.1.sum U (K.o.1.below V.o Y) (Zr Y V.o.size) (AG.mono (AG.below K.o.2.1 V.o) V.o.size) (AI.mono (AI.below K.o.2.2.1 V.o) V.o.size) xK xH xG (fun z hz=>Zm (K.o.2.2.2.1 z hz) (by omega)) ⟨z.1,HY.o.1,rfl⟩;have yM:=Yx HD;clear zA hin HD;go_wp2_with fail;refine Calls.mono yM.o ?_;rintro e w4 ⟨zJ,yL⟩
   have zM:Below w.heap.size w w4:=V.o.trans (zJ.mono V.o.size);have H4:=Yx (Zb (Aa.below H3.o.1 zJ) (Zb (Aa.below H3.o.2.1 zJ) (Aa.below H3.o.2.2 zJ)));have xI:w.heap.size+3<=w4.heap.size:=Zm yX zJ.size;clear i0 i1 i2 i3 i4 i5 i6 r0 r1 r2 r3 r4 r5 f0 f1 f2 f3 f4 f5 y0 q0 y1 q1 y2 q2 y3 q3 y4 q4 y5 q5 y6 q6 y7 q7 y8 q8 y9 q9 M zE N zF O zG P zH Q zI yM H3
   rcases yL with⟨zB,rfl⟩|⟨zB,g,c,rfl,yP,xD,yR⟩
   .have zR:Hid (CV u q (f.map (·.1)) z.1.sum):=zB;obtain⟨m,zC⟩:∃m,m=w4.alloc (.cells (Yf 6) 88):=⟨_,rfl⟩;have Z:Below w4.heap.size w4 m:=by rw[zC];exact Zy
    have H5:(Aa m w.heap.size (Yj G o d a (some ⟨b,0,none⟩) f.length H C u.length F B q.length E)/\Aa m (w.heap.size+1) (Xs 2 J 0 S I t.length R A z.1.born D)/\Aa m (w.heap.size+2) DK):=⟨Aa.below H4.o.1 Z,Aa.below H4.o.2.1 Z,Aa.below H4.o.2.2 Z⟩;have n0:m.cell? (Ze (w4.heap.size) 0)=some (Zg 6):=by rw[zC];simp[go_sem]
    have zS:Hid (Zz w m):=zM.trans (Z.mono zM.size);have zT:=Yx zC;clear zC zB zM zJ Z;go_upto_region 30 with fail;rw[<-zT.o];clear zT H4;obtain⟨i0,i1,i2,i3,i4,i5,i6⟩:=FX (AR H5.1);obtain⟨⟨r0,f0⟩,⟨r1,f1⟩,⟨r2,f2⟩,⟨r3,f3⟩,⟨r4,f4⟩,⟨r5,f5⟩⟩:=r6 H5.2.1;obtain⟨⟨y0,q0⟩,⟨y1,q1⟩,⟨y2,q2⟩,⟨y3,q3⟩,⟨y4,q4⟩,⟨y5,q5⟩,⟨y6,q6⟩,⟨y7,q7⟩,⟨y8,q8⟩,⟨y9,q9⟩,⟨M,zE⟩,⟨N,zF⟩,⟨O,zG⟩,⟨P,zH⟩,Q,zI⟩:=FE H5.2.2;go_wp2
    refine bodyPost_ret (v:=.agg #[Zf,Zg G,Zg o,Zg d,Zg a,Za b f.length H,.slice C u.length F,.slice B q.length E,Zg 2,.slice J 0 S,.slice I t.length R,Zg A,Zg z.1.born,Zg D,Zc]) (by simp[results,results19,go_sem,y0,y1,y2,y3,y4,y5,y6,y7,y8,y9,M,N,O,P,Q]) rfl ?_;refine LU.from (X:=m) [w.heap.size+2] ?_ (JU m (w.heap.size+2) _ _ _ _ _ _ _ _ _ _ _ _ _ _ _);intro wf T
    have l:=zS.o.trans (T.below zS.o.size (by simp));exact⟨⟨⟨f.map (·.1),2,A,z.1.born,D,[],t,[]⟩,b,H,f,_,_,none,_,_,0,rfl,.ah zW rfl z.1 HY.o (.inr zR.o),rfl,K.o.1.below l Y,Zr Y l.size,yC.o.j l,K.o.2.2.2.2.j l,.inl rfl,⟨(fun p e=>by cases e;exact .inl rfl),(fun p e=> .inr (.inl ⟨p,e,rfl⟩)),(fun p e=> .inr (.inr (.inl ⟨p,e,rfl⟩))),Du.no⟩,fun z hz=>hz,yG,yF,yH.mono l.size,yI.mono l.size⟩,l⟩
   .have zR:Hid (¬CV u q (f.map (·.1)) z.1.sum):=zB;obtain⟨m,zC⟩:∃m,m=w4.alloc (.cells #[Zf,Zg G,Zg o,Zg d,Zg a,Za g (BB f z.1.sum).length c,.slice C u.length F,.slice B q.length E,Zd,Zf,Zd,Zd] 88):=⟨_,rfl⟩;have Z:Below w4.heap.size w4 m:=by rw[zC];exact Zy
    have H5:=Yx (Zb (Aa.below H4.o.1 Z) (Zb (Aa.below H4.o.2.1 Z) (Aa.below H4.o.2.2 Z)));have n:Aa m w4.heap.size [Zf,Zg G,Zg o,Zg d,Zg a,Za g (BB f z.1.sum).length c,.slice C u.length F,.slice B q.length E,Zd,Zf,Zd,Zd]:=by rw[zC];exact Aa.new w4 _ _
    obtain⟨n0,_⟩:=n 0 _ rfl;obtain⟨n1,_⟩:=n 1 _ rfl;obtain⟨n2,_⟩:=n 2 _ rfl;obtain⟨n3,_⟩:=n 3 _ rfl;obtain⟨n4,_⟩:=n 4 _ rfl;obtain⟨n5,_⟩:=n 5 _ rfl;obtain⟨n6,_⟩:=n 6 _ rfl;obtain⟨n7,_⟩:=n 7 _ rfl;have zS:Hid (Zz w m):=zM.trans (Z.mono zM.size);have xC:Hid (Bk m g 0 (BB f z.1.sum)):=yP.below Z yR;have xR:w.heap.size+3<=g:=Zm yX xD;have xE:g<m.heap.size:=Zr yR Z.size
    have xW:w.heap.size+3<=m.heap.size:=Zm xI Z.size;have zT:=Yx zC;clear zC zB zM zJ Z n yP;go_upto_region 30 with fail;rw[<-zT.o];clear zT H4;obtain⟨i0,i1,i2,i3,i4,i5,i6⟩:=FX (AR H5.o.1);obtain⟨⟨r0,f0⟩,⟨r1,f1⟩,⟨r2,f2⟩,⟨r3,f3⟩,⟨r4,f4⟩,⟨r5,f5⟩⟩:=r6 H5.o.2.1;obtain⟨W6,zO⟩:∃W6,W6=m.alloc (.cells #[.string z.1.sum] 9):=⟨_,rfl⟩;have b6:Below m.heap.size m W6:=by rw[zO];exact Zy
    have p0:W6.cell? (Ze (m.heap.size) 0)=some (.string z.1.sum):=by rw[zO];simp[go_sem]
    have xF:m.heap.size<W6.heap.size:=by rw[zO];simp
    have H6:Aa (m.alloc (.cells #[.string z.1.sum] 9)) (w.heap.size+1+1) DK:=by rw[<-zO];exact Aa.below (v:=Zf) H5.o.2.2 b6
    have xB:=Yx zO;obtain⟨⟨y0,q0⟩,⟨y1,q1⟩,⟨y2,q2⟩,⟨y3,q3⟩,⟨y4,q4⟩,⟨y5,q5⟩,⟨y6,q6⟩,⟨y7,q7⟩,⟨y8,q8⟩,⟨y9,q9⟩,⟨M,zE⟩,⟨N,zF⟩,⟨O,zG⟩,⟨P,zH⟩,Q,zI⟩:=FE H6;have HH:=Yx (Zb b6 p0);clear zO b6 p0;go_wp2
    refine bodyPost_ret (v:=.agg #[Zf,Zg G,Zg o,Zg d,Zg a,Za g (BB f z.1.sum).length c,.slice C u.length F,.slice B q.length E,Zg 2,.slice J 0 S,.slice I t.length R,Zg A,Zg z.1.born,Zg D,Za m.heap.size 1 1]) (by simp[results,results19,go_sem,y0,y1,y2,y3,y4,y5,y6,y7,y8,y9,M,N,O,P,Q]) rfl ?_;rw[<-xB.o];refine LU.from (X:=W6) [w.heap.size+2] ?_ (JU W6 (w.heap.size+2) _ _ _ _ _ _ _ _ _ _ _ _ _ _ _)
    intro wf T;have yQ:=zS.o.trans (HH.o.1.mono zS.o.size);have l:=yQ.trans (T.below yQ.size (by simp))
    refine⟨⟨⟨CB (f.map (·.1)) z.1.sum,2,A,z.1.born,D,[],t,[z.1.sum]⟩,g,c,BB f z.1.sum,_,_,_,_,_,1,rfl,.drop zW rfl z.1 HY.o yK.o zR.o,JI _ _,KD (xC.o.below HH.o.1 xE) (T.block _ (by omega) (by simp;omega)) (fun v hv=> ?_),by have:=T.size;omega,yC.o.j l,K.o.2.2.2.2.j l,.inr ⟨_,0,rfl,by have:=T.size;omega,fun i s h=> ?_⟩,⟨Du.new (by omega),(fun p e=> .inr (.inl ⟨p,e,rfl⟩)),(fun p e=> .inr (.inr (.inl ⟨p,e,rfl⟩))),Du.new (by omega)⟩,fun v hv=>(List.mem_filter.1 hv).1,yG,yF,yH.mono l.size,yI.mono l.size⟩,l⟩
    .obtain⟨j,hj⟩:=List.getElem?_of_mem ((List.mem_filter.1 hv).1);obtain⟨_,ad,rc,h1,h2⟩:=K.o.1 j v hj;exact⟨ad,rc,h1,h2.j l⟩
    .match i,h with
     |0,h=>cases h;exact(World.cell?_of_block (T.block _ xF (by simp;omega))).trans HH.o.2
structure LV (w w':Zh) (e:Ending) (wd now given births:Int) (P L:Value) (ks:List Kd) (ps:List Pd) (ls:List Ld) (ph top at_ ro:Int) (qs ms:Zl) (b0:Nat) (x0 y0:Zk) (zs0:List (Kd×Value)) (r:UR) (b c:Nat) (zs:List (Kd×Value)) (qa ma da:Zk) (qc mc dc:Nat):Prop where
 e:e=.returned (.agg #[Zf,Zg wd,Zg now,Zg given,Zg births,.slice (some ⟨b,0,none⟩) r.A.length c,P,L,Zg r.H,.slice qa r.D.length qc,.slice ma r.ms.length mc,Zg r.K,Zg r.J,Zg r.ro,.slice da r.L.length dc])
 uto:UTo ks ps ls births ph top at_ ro qs ms r
 zk:zs.map (·.1)=r.A
 z:Bk w' b 0 zs
 lt:b<w'.heap.size
 q:Ad w' w'.heap.size qa r.D
 m:Ad w' w'.heap.size ma r.ms
 d:Ad w' w'.heap.size da r.L
 fb:Du b0 x0 y0 w.heap.size (some ⟨b,0,none⟩)
 fq:Du b0 x0 y0 w.heap.size qa
 fm:Du b0 x0 y0 w.heap.size ma
 fd:Du b0 x0 y0 w.heap.size da
 sub:∀z∈zs,z∈zs0
 cq:FT qa r.D.length qc
 cm:FT ma r.ms.length mc
 lq:Lt w' qa
 lm:Lt w' ma
 low:Below w.heap.size w w'
theorem LU.lv{C:Zh}{e:Ending}{D g d a:Int}{u:List Kd}{z:List Pd}{v:List Ld}{y i f B:Int}{A x:Zl}{s:Nat}{E F:Zk}{j:List (Kd×Value)}(h:LU w C e D g d a P L u z v y i f B A x s E F j):∃r b c q o m k p n l,LV w C e D g d a P L u z v y i f B A x s E F j r b c q o m k p n l:=by obtain⟨⟨r,b,c,q,o,m,k,p,n,l,Q,R,t,S,T,U,V,W,⟨X,Y,G,H⟩,I,K,M,N,O⟩,J⟩:=h;refine⟨r,b,c,q,o,m,k,p,n,l,?_,R,t,S,T,U,V,W,X,Y,G,H,I,K,M,N,O,J⟩;rw[Q,<-t,List.length_map]
theorem SF(y o d a:Int)(b K:Nat)(m:List (Kd×Value))(G:List Kd)(j:List Pd)(g:List Ld)(u t:Zk)(C B:Nat)(v p n x:Int)(k l:Zk)(D E:Nat)(q i:Zl)(w:Zh)(U:m.map (·.1)=G)(F:Bk w b 0 m)(H:b<w.heap.size)(S:AG w w.heap.size u j)(Q:AI w w.heap.size t g)(Z:Ad w w.heap.size k q)(P:Ad w w.heap.size l i)(M:FT k q.length D)(I:FT l i.length E)(T:Lt w k)(J:Lt w l)(f:XI y a G j g v x q i)(N:i.length<=100000):
 Calls prog 19 #[.agg (Yi y o d a (some ⟨b,0,none⟩) G.length K u j.length C t g.length B),.agg (Ya v k q.length D l i.length E p n x)] w fun e L=>∃r W c V qa ma X qc mc Y,LV w L e y o d a (.slice u j.length C) (.slice t g.length B) G j g v p n x q i b k l m r W c V qa ma X qc mc Y:=by
 refine Calls.mono (R:=fun e L=>LU w L e y o d a (.slice u j.length C) (.slice t g.length B) G j g v p n x q i b k l m) ?_ (fun e L h=>h.lv);subst U;have O:m.length<=600:=by have:=f.ok.len;rw[List.length_map]at this;exact this
 have A:∀z∈m,z.1.B.length<=30:=fun z F=>(f.B z.1 (List.mem_map.2 ⟨z,F,rfl⟩)).1;rw[List.length_map];by_cases h0:v=0
 .subst h0;exact Pw y o d a b K _ _ m j g u t C B rfl rfl p n x k l D E q i w F H S Q P I J f.pl f.ll f.b0 f.b1
 .cases q with
  |nil=>exact Px y o d a b K m j g u t C B v p n x k l D E i w h0 F H M T S Q P I J O f.pl f.ll A N f.r0 f.r1
  |cons s q0=>exact QB y o d a b K m j g u t C B v p n x k l D E s q0 i w h0 F H Z P I J M.1 O A (by have:=f.ql;simp at this;omega) N
theorem Ad.Y{d:Zh}{f:Zl}(h:Ad w w.heap.size a f)(e:Tn V w d)(j:∀p,a=some p->p.block<w.heap.size->p.block∉V):Ad d d.heap.size a f:=by
 rcases h with h|⟨b,g,rfl,c,k⟩
 .exact .inl h
 .exact .inr ⟨b,g,rfl,Zr c e.size,fun i s l=>(World.cell?_of_block (e.block b c (j _ rfl c))).trans (k i s l)⟩
theorem AG.Y{d:Zh}{k:List Pd}(h:AG w w.heap.size a k)(j:Tn V w d)(m:∀p,a=some p->p.block<w.heap.size->p.block∉V):AG d d.heap.size a k:=by
 rcases h with h|⟨b,l,rfl,c,e⟩
 .exact .inl h
 .have f:=j.block b c (m _ rfl c);exact .inr ⟨b,l,rfl,Zr c j.size,fun i s g=>⟨(World.cell?_of_block f).trans (e i s g).1,(World.cell?_of_block f).trans (e i s g).2⟩⟩
theorem AI.Y{g:Zh}(h:AI w w.heap.size a k)(j:Tn V w g)(m:∀p,a=some p->p.block<w.heap.size->p.block∉V):AI g g.heap.size a k:=by
 rcases h with h|⟨b,l,rfl,c,d⟩
 .exact .inl h
 .have e:=j.block b c (m _ rfl c);exact .inr ⟨b,l,rfl,Zr c j.size,fun i s f=>⟨(World.cell?_of_block e).trans (d i s f).1,(World.cell?_of_block e).trans (d i s f).2.1,(World.cell?_of_block e).trans (d i s f).2.2⟩⟩
theorem NR(q j h r:Int)(a b:Zk)(n m c d k:Nat)(w:Zh)(v:Ad w w.heap.size a (marks k n))(x:Ad w w.heap.size b (marks (k+n) m))(y:1<=k)(A:k+n+m<=100000000):
 Calls prog 86 #[.agg (Ya q a n c b m d j h r),Zg k] w fun e z=>e=.returned (Zg (k+n+m))/\Zz w z:=by
 have o:Below w.heap.size w (w.alloc (.cells (Ya q a n c b m d j h r) 41)):=Zy;have B:¬((k:Int)+n<0):=Yw
 have u:¬((k:Int)+n+m<0):=Yw
 go_enter func86,ntmps86;go_wp2_with fail;refine(Fv a n c k w.heap.size _ (v.below o) Yv y Yw).mono ?_;rintro e s ⟨rfl,i⟩;have g:=o.trans (i.mono Yv);have l:s.cell? (Ze (w.heap.size) 2)=some (.slice b m d):=by rw[i.cell (p:=⟨w.heap.size,2,none⟩) Yv];simp
 have f:=Fv b m d (k+n) w.heap.size s (x.below g) g.size Yw Yw;rw[show((k+n:Nat):Int)=(k:Int)+n from by omega]at f;go_wp2_with fail;refine f.mono ?_;rintro e C ⟨rfl,t⟩;go_wp2;go_ret;exact⟨rfl,g.trans (t.mono g.size)⟩
theorem Aj.set{a cap:Nat}{k:Zl}(h:Aj w b (.slice (some ⟨g,a,none⟩) n cap) k){j:Nat}(v:j<k.length)(t:Zi):Aj (w.setCell (Ze g (a+j)) (.string t)) b (.slice (some ⟨g,a,none⟩) n cap) (k.set j t):=by
 rcases h with⟨e,_⟩|⟨x,m,l,e,o,p,q,r,c,u⟩
 .cases e
 .cases e;refine .inr ⟨g,a,cap,by rw[List.length_set],o,by simpa using p,by rw[List.length_set];exact q,r,fun i f=>⟨?_,?_⟩,fun i s d=> ?_⟩
  .exact(BR.setCell w g (a+j) (.string t) g (a+i) (c i f).1).1
  .exact(BR.setCell w g (a+j) (.string t) g (a+i) (c i f).1).2 (c i f).2
  .by_cases hij:i=j
   .subst hij;rw[List.getElem?_set_self v]at d;cases d;exact World.cell?_setCell_same' _ _ _ (c i Yw).1
   .rw[List.getElem?_set_ne (fun e=>hij e.symm)]at d;exact(World.cell?_setCell_other w _ _ _ Yo).trans (u i s d)
theorem SG(k i:Nat)(a:Zl)(h:i<a.length):(marks k i++a.drop i).set i (BY (k+i))=marks k (i+1)++a.drop (i+1):=by have b:=BC k i;rw[List.set_append_right _ _ Yw,b,Nat.sub_self,List.drop_eq_getElem_cons h,Zp];simp[marks,List.range_succ]
theorem GA(d k:Nat)(V:Value)(f:Zl)(w:Zh)(h:Aj w d V f)(S:1<=k)(G:k+f.length<=100000000):
 Calls prog 33 #[V,Zg k] w fun e F=>e=.returned (Zg (k+f.length:Nat))/\Aj F d V (marks k f.length)/\w.grownBy F (Af V):=by
 obtain⟨a,cap,rfl,_⟩:=h.row;have C:Hid (Aj w d (.slice a f.length cap) f):=h;obtain⟨n,z⟩:∃n,n=f.length:=⟨_,rfl⟩;rw[<-z]at C G |-;have u:=Yx z;clear h z;go_enter func33,ntmps33;go_wp2
 go_loopw [1,5] (fun v i wr=>∃(j:Nat),j<=n/\i=Zg j/\v=Zg (k+j)/\Hid (Aj wr d (.slice a n cap) (marks k j++f.drop j)/\w.grownBy wr (Af (.slice a n cap)))) (fun _ i _=>n -(intOf i).toNat)
 case atStart=>exact⟨0,Nat.zero_le _,rfl,Yv,by simpa [marks]using C.o,Ee _ _⟩
 case round=>
  obtain⟨j,R,rfl,rfl,m⟩:=hrel;by_cases hlt:j<n
  .have q:(marks k j++f.drop j).length=n:=by rw[List.length_append,BC,List.length_drop];have:=u.o;omega
   obtain⟨g,b,rfl,l,s⟩:∃g b,a=some ⟨g,b,none⟩/\(∀X,Zz wr X->(X.cell? (Ze g (b+j))).isSome=true)/\(∀X,Zz wr X->X.frozen? ⟨g,b+j,none⟩=false):=by
    rcases m.o.1 with⟨e,K⟩|⟨g,b,H,e,N,D,O,P,E,Q⟩
    .rw[K]at q;simp at q;omega
    .cases e;refine⟨g,b,rfl,fun X y=> ?_,fun X y=> ?_⟩
     .rw[y.cell (p:=⟨g,b+j,none⟩) D];exact(E j Yw).1
     .rw[y.frozen (p:=⟨g,b+j,none⟩) D];exact(E j Yw).2
   have c:=FH (k+j) wr Yw Yw;rw[show((k+j:Nat):Int)=(k:Int)+j from by omega]at c;have I:(j:Int)<n:=Yw
   have HS:=Yx (Zn l s);clear l s;go_wp2_with fail;refine c.mono ?_;rintro e A ⟨rfl,o⟩;obtain⟨v0,L⟩:=Option.isSome_iff_exists.1 (HS.o.1 A o);have M:=HS.o.2 A o;have r:=(m.o.1.below o).set (j:=j) (by rw[q];exact hlt) (BY (k+j));rw[SG k j f (by have:=u.o;omega)]at r;have t:=Aw m.o.2 (Aw (Aq _ o) (JG A g (b+j) (.string (BY (k+j)))));have B:=Yx (Zn r t);clear r t m c HS;go_wp2
   exact⟨⟨j+1,Yw,Yp,Yp,B.o.1,B.o.2⟩,by simp[intOf];omega⟩
  .obtain rfl:j=n:=Yw
   have x:=m.o.1;rw[List.drop_of_length_le (by have:=u.o;omega),List.append_nil]at x;have J:=Yx x;clear x;go_wp2;go_ret;exact⟨Yp,J.o,m.o.2⟩
theorem SH(r o n s:Int)(a k:Nat)(Q M:Value)(c d:Zl)(w:Zh)(x:Aj w a Q c)(y:Aj w a M d)(B:∀g,Af Q=some g->Af M≠some g)(U:1<=k)(Y:k+c.length+d.length<=100000000):
 Calls prog 32 #[.agg #[Zg r,Q,M,Zg o,Zg n,Zg s],Zg k] w fun e H=>e=.returned (Zg (k+c.length+d.length:Nat))/\Aj H a Q (marks k c.length)/\Aj H a M (marks (k+c.length) d.length)/\Tn ((Af Q).toList++(Af M).toList) w H:=by
 obtain⟨j,l,rfl,_⟩:=x.row;obtain⟨f,i,rfl,_⟩:=y.row;have u:Below w.heap.size w (w.alloc (.cells (Ya r j c.length l f d.length i o n s) 41)):=Zy;have G:Aa (w.alloc (.cells (Ya r j c.length l f d.length i o n s) 41)) w.heap.size (Xs r j c.length l f d.length i o n s):=Aa.new w _ _;obtain⟨W,z⟩:∃W,W=w.alloc (.cells (Ya r j c.length l f d.length i o n s) 41):=⟨_,rfl⟩;rw[<-z]at u G
 have K:Hid (Aa W _ _):=(AA z).2.2;obtain⟨X,_⟩:=G 1 _ rfl;have F:Hid (Aj W a (.slice j c.length l) c/\Aj W a (.slice f d.length i) d):=⟨x.below u,y.below u⟩;have P:Hid ((∀g,Af (.slice j c.length l)=some g->g<w.heap.size)/\(∀g,Af (.slice f d.length i)=some g->g<w.heap.size)):=⟨fun g m=>(x.S m).2,fun g m=>(y.S m).2⟩;have HN:=Yx B;have J:=Yx z;have S:Hid (Zz w W):=u;clear x y B z G u
 go_enter func32,ntmps32;go_upto_region 1 with fail;rw[<-J.o];clear J;go_wp2_with fail;refine(GA a k _ c W F.o.1 U Yw).mono ?_;rintro e t ⟨rfl,C,p⟩;have R:w.heap.size<W.heap.size:=Aa.lt K.o;have E:Aa t w.heap.size (Xs r j c.length l f d.length i o n s):=Aa.same K.o (p.block _ R (fun e=>by have:=P.o.1 _ e.symm;omega))
 have A:Aj t a (.slice f d.length i) d:=F.o.2.stays p.size (fun g m=>p.block g (F.o.2.S m).2 (fun e=>HN.o g e.symm m));obtain⟨V,_⟩:=E 2 _ rfl;have L:Hid (Aj t a (.slice f d.length i) d):=A;have v:=Yx (Zb C p);clear X E A C p;go_wp2_with fail;refine(GA a (k+c.length) _ d t L.o Yw Yw).mono ?_;rintro e I ⟨rfl,D,q⟩
 have O:Hid (Aj I a (.slice j c.length l) (marks k c.length)):=v.o.1.stays q.size (fun g m=>q.block g (v.o.1.S m).2 (fun e=>HN.o g m e.symm));have T:Hid (Tn ((Af (.slice j c.length l)).toList++(Af (.slice f d.length i)).toList) w I):=((Tn.of S.o).trans ((BV v.o.2).mono (by simp;exact fun b h=> .inl h))).trans ((BV q).mono (by simp;exact fun b h=> .inr h));have N:=Yx D;clear V D q;go_wp2;go_ret
 exact⟨rfl,O.o,N.o,T.o⟩
theorem QC(a b:Zk)(n m c d k:Nat)(w:Zh)(r:Ad w w.heap.size a (marks k n))(s:Ad w w.heap.size b (marks (k+n) m))(t:1<=k)(v:k+n+m<=100000000):
 Calls prog 84 #[.agg #[.slice a n c,.slice b m d],Zg k] w fun e u=>e=.returned (Zg (k+n+m))/\Zz w u:=by
 have j:Below w.heap.size w (w.alloc (.cells #[.slice a n c,.slice b m d] 35)):=Zy;have x:¬((k:Int)+n<0):=Yw
 have q:¬((k:Int)+n+m<0):=Yw
 go_enter func84,ntmps84;go_wp2_with fail;refine(Fv a n c k w.heap.size _ (r.below j) Yv t Yw).mono ?_;rintro e l ⟨rfl,h⟩;have g:=j.trans (h.mono Yv);have i:l.cell? (Ze (w.heap.size) 1)=some (.slice b m d):=by rw[h.cell (p:=⟨w.heap.size,1,none⟩) Yv];simp
 have f:=Fv b m d (k+n) w.heap.size l (s.below g) g.size Yw Yw;rw[show((k+n:Nat):Int)=(k:Int)+n from by omega]at f;go_wp2_with fail;refine f.mono ?_;rintro e y ⟨rfl,o⟩;go_wp2;go_ret;exact⟨rfl,g.trans (o.mono g.size)⟩
def JX(w:Zh)(b:Nat)(u v:Value):Prop:=w.cell? (Ze b 0)=some u/\w.cell? (Ze b 1)=some v/\b<w.heap.size
theorem JX.new(w:Zh)(u v:Value)(t:TypeId):JX (w.alloc (.cells #[u,v] t)) w.heap.size u v:=⟨Yv,Yv,Yv⟩
theorem JX.below(h:JX w b u v)(a:Zz w c):JX c b u v:=
 ⟨(a.cell (p:=⟨b,0,none⟩) h.2.2).trans h.1,(a.cell (p:=⟨b,1,none⟩) h.2.2).trans h.2.1,Zr h.2.2 a.size⟩
theorem JX.alloc(h:JX w b u v)(o:Obj):JX (w.alloc o) b u v:=h.below (Zy)
theorem Bf.Y{f:Zh}{a:Nat}{p:Zj}{l:List Kd}{o:List Pd}{m:List Ld}(h:Bf w a T P L p l o m)(u:Tn V w f)(q:∀b∈V,b<a):Bf f a T P L p l o m:=by have c:∀{e:TypeId} {size:Nat} {v:Value} {n:Nat} {xs:Zj},w.ownsRow a e size v n xs->f.ownsRow a e size v n xs:=fun d=>Ak d (fun g j=>u.block g (Ac d j).2 (fun e=>by have:=q g e;have:=(Ac d j).1;omega));exact⟨h.len,c h.aj,fun i k r s t=>c (h.B i k r s t),c h.pins,c h.aq,h.nd⟩
theorem Bf.mono{a:Nat}{c:List Kd}{e:List Pd}{d:List Ld}(h:Bf w base T P L f c e d)(b:a<=base):Bf w a T P L f c e d:=
 ⟨h.len,h.aj.mono b,fun i k r g j=>(h.B i k r g j).mono b,h.pins.mono b,h.aq.mono b,h.nd⟩
theorem Bf.lo(h:Bf w b T P L e j l k):∀g∈Bj T P L e,b<=g:=by
 intro g a;unfold Bj at a;simp only[List.mem_append,Option.mem_toList,List.mem_filterMap]at a;rcases a with a|a|a|⟨r,f,a⟩
 .exact(Ac h.aj a).1
 .exact(Ac h.pins a).1
 .exact(Ac h.aq a).1
 .obtain⟨i,c⟩:=List.getElem?_of_mem f;have d:=(Zw c).1;rw[h.len]at d;exact(Ac (h.B i _ r (Zv d) c) a).1
theorem Bf.cf(h:Bf w b T P L e j l k):∀g∈Bj T P L e,g<w.heap.size:=by
 intro g a;unfold Bj at a;simp only[List.mem_append,Option.mem_toList,List.mem_filterMap]at a;rcases a with a|a|a|⟨r,f,a⟩
 .exact(Ac h.aj a).2
 .exact(Ac h.pins a).2
 .exact(Ac h.aq a).2
 .obtain⟨i,c⟩:=List.getElem?_of_mem f;have d:=(Zw c).1;rw[h.len]at d;exact(Ac (h.B i _ r (Zv d) c) a).2
theorem Bf.apart{l:Zh}{n:List Kd}{p:List Pd}{o:List Ld}(h:Bf w d T P L f n p o)(t:Tn V w l)(q:∀b∈V,b∉Bj T P L f):Bf l d T P L f n p o:=by
 have c:∀g,g∈Bj T P L f->g<w.heap.size->l.heap[g]?=w.heap[g]?:=fun g a s=>t.block g s (fun e=>q g e a)
 refine⟨h.len,Ak h.aj (fun g a=>c g (by unfold Bj;simp[a]) (Ac h.aj a).2),fun i k r m j=>Ak (h.B i k r m j) (fun g a=>c g (by unfold Bj;simp only[List.mem_append,List.mem_filterMap];exact .inr (.inr (.inr ⟨r,Zs j,a⟩))) (Ac (h.B i k r m j) a).2),Ak h.pins (fun g a=>c g (by unfold Bj;simp[a]) (Ac h.pins a).2),Ak h.aq (fun g a=>c g (by unfold Bj;simp[a]) (Ac h.aq a).2),h.nd⟩
theorem Bf.rows{a:Zj}{b:List Kd}{u:List Pd}{s:List Ld}(h:Bf w n T P L a b u s):∃m v l t f r,T=.slice m b.length v/\P=.slice l u.length t/\L=.slice f s.length r/\BI w w.heap.size m l f b u s:=by
 obtain⟨m,v,rfl⟩:=As h.aj;obtain⟨l,t,rfl⟩:=As h.pins;obtain⟨f,r,rfl⟩:=As h.aq;refine⟨m,v,l,t,f,r,rfl,rfl,rfl,⟨?_,AG.own h.pins,AI.own h.aq⟩⟩;rcases h.aj.2 with⟨_,q⟩|⟨g,cap,F,e,I,B,_⟩
 .exact .inl (List.length_eq_zero_iff.1 q)
 .cases e;refine .inr ⟨g,0,rfl,(Array.getElem?_eq_some_iff.1 B).1,fun i k p=> ?_⟩;have J:=(Zw p).1;have hlen:=h.len;have x:a[i]?=some a[i]:=Zv Yw;have D:(b.zip a)[i]?=some (k,a[i]):=List.getElem?_zip_eq_some.2 ⟨p,x⟩;have G:(b.zip a).length=b.length:=by rw[List.length_zip];omega
  have c:∀j,j<4->w.cell? (Ze g (i *4+j))=(kC (k,a[i]))[j]?:=fun j C=>(h.aj.cellAt (i *4+j) Yw).trans (Br Et D C);have d:=h.B i k _ p x;obtain⟨ra,E,o⟩:=As d;rw[Nat.zero_add];refine⟨by simpa [kC]using c 0 Ys,by simpa [kC]using c 1 Ys,by simpa [kC]using c 2 Ys,ra,E,?_,?_⟩
  .have:=c 3 Ys;rw[<-o];simpa [kC]using this
  .rw[o]at d;rcases d.2 with⟨_,q⟩|⟨H,y,z,A,_⟩
   .exact .inl (List.eq_nil_of_length_eq_zero q)
   .cases A;exact Ad.own d
theorem Wt{a:List Kd}(h:∀k∈a,k.B.length<=30):AF a<=30 *a.length:=by
 induction a with
 |nil=>simp[AF]
 |cons x xs ih=>rw[LF];have c:=h x Yv;have d:=ih (fun k b=>h k (by simp[b]));simp only[List.length_cons];omega
theorem Bf.same{m:Zj}{f:List Kd}{j:List Ld}(h:Bf w base T P L m f l j)(q:∀b,base<=b->b<w.heap.size->c.heap[b]?=w.heap[b]?):Bf c base T P L m f l j:=by have a:∀{e:TypeId} {size:Nat} {v:Value} {n:Nat} {xs:Zj},w.ownsRow base e size v n xs->c.ownsRow base e size v n xs:=fun h=>Ak h (fun g d=>q g (Ac h d).1 (Ac h d).2);exact⟨h.len,a h.aj,fun i k r o p=>a (h.B i k r o p),a h.pins,a h.aq,h.nd⟩
theorem Fk.below{b:List Kd}(h:Fk w ⟨g,0,none⟩ b)(e:Zz w c):Fk c ⟨g,0,none⟩ b:=by intro i k f;obtain⟨d,j,a⟩:=h i k f;exact⟨d,j,(e.cell (p:=⟨g,0+i *4+3,none⟩) (World.block_lt_of_cell? w _ a)).trans a⟩
end Go.Proofs.YtcankpdbabaacaaGreatDoor
