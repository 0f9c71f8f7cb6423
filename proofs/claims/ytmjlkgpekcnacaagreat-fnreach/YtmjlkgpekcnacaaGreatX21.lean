import Derived.Test.YtmjlkgpekcnacaaGreatX20
set_option maxRecDepth 100000
set_option maxHeartbeats 16000000
namespace Go.Proofs.YtmjlkgpekcnacaaGreat
open Go.ChangeShapes Go.WideShapes Go.ChangeAt Go.RowKit _root_.Go.Proofs.Tryz
variable{w d:Zh}{b:Nat}{e:Ending}{now:Int}{a:Va}{P L:Value}{v:Vd}{V:List Nat}
theorem Kk{c:Zh}{off:Nat}{d:List (Kd×Value)}(h:Bf w b off d)(a:c.heap[b]?=w.heap[b]?)(m:∀z∈d,∃e n,z.2=.slice (some e) z.1.B.length n/\Ab c c.heap.size (some e) z.1.B):Bf c b off d:=by intro i z f;obtain⟨⟨g,j,k,l⟩,_⟩:=h i z f;exact⟨⟨(World.cell?_of_block a).trans g,(World.cell?_of_block a).trans j,(World.cell?_of_block a).trans k,(World.cell?_of_block a).trans l⟩,m z (Zs f)⟩
theorem Oa(F now d a:Int)(b G:Nat)(f:List (Kd×Value))(t:List Pd)(o:List Ld)(B A:Zk)(E D:Nat)(ph u K C:Int)(I H:Zk)(R Q:Nat)(q:Zl)(w:Zh)(zW:ph≠0)(hz:Bf w b 0 f)(V:b<w.heap.size)(yG:EC I 0 R)(yH:Lt w I)(hp:AO w w.heap.size B t)(hl:AR w w.heap.size A o)(hm:Ab w w.heap.size H q)(yF:EC H q.length Q)(yI:Lt w H)(xK:f.length<=600)(xH:t.length<=100)(xG:o.length<=200)(zX:∀z∈f,z.1.B.length<=30)(xT:q.length<=100000)(xN:0<=C)(xO:C<=1000000000):
 Calls prog 117 #[.agg (Yj F now d a (some ⟨b,0,none⟩) f.length G B t.length E A o.length D),.agg (Xy ph I 0 R H q.length Q u K C)] w fun e w'=>LU w w' e F now d a (.slice B t.length E) (.slice A o.length D) (f.map (·.1)) t o ph u K C [] q b I H f:=by
 have xM:(ph==0)=false:=by simpa using zW
 obtain⟨W,hW⟩:∃W,W=((w.alloc (.cells (Yj F now d a (some ⟨b,0,none⟩) f.length G B t.length E A o.length D) 27)).alloc (.cells (Xy ph I 0 R H q.length Q u K C) 78)).alloc (.cells Xw 170):=⟨_,rfl⟩;have yE:Below w.heap.size w W:=by rw[hW];exact((Zy).alloc (by simp) _).alloc (by simp;omega) _
 have yY:W.heap.size=w.heap.size+3:=by rw[hW];simp
 have x2:Aa W (w.heap.size+2) Ek:=by have h1:=Aa.new ((w.alloc (.cells (Yj F now d a (some ⟨b,0,none⟩) f.length G B t.length E A o.length D) 27)).alloc (.cells (Xy ph I 0 R H q.length Q u K C) 78)) Ek 170;rw[hW];simpa [Ek]using h1
 have x1:Aa W (w.heap.size+1) (Xv ph I 0 R H q.length Q u K C):=by have h1:=Aa.new (w.alloc (.cells (Yj F now d a (some ⟨b,0,none⟩) f.length G B t.length E A o.length D) 27)) (Xv ph I 0 R H q.length Q u K C) 78;rw[World.size_alloc]at h1;rw[hW];exact Aa.below h1 (Zy)
 have x0:Aa W w.heap.size (Yh F now d a (some ⟨b,0,none⟩) f.length G B t.length E A o.length D):=by have h1:=Aa.new w (Yh F now d a (some ⟨b,0,none⟩) f.length G B t.length E A o.length D) 27;rw[hW];exact Aa.below (Aa.below h1 (Zy)) (Zy)
 have HW:=Yw hW;have xQ:Hid (W.heap.size=w.heap.size+3):=yY;have xP:w.heap.size+3<=W.heap.size:=by omega
 clear hW yY;obtain⟨W1,zY⟩:∃W1,W1=W.setCell (Zd (w.heap.size+1) 0) (Zg 2):=⟨_,rfl⟩;have zU:Tn [w.heap.size+1] W W1:=by rw[zY];exact Bd _ _ _ _
 have xU:W.heap.size<=W1.heap.size:=zU.size;have zV:Below w.heap.size w W1:=yE.trans (zU.below yE.size (by simp))
 have H1:Hid (Aa W1 w.heap.size (Yh F now d a (some ⟨b,0,none⟩) f.length G B t.length E A o.length D)/\Aa W1 (w.heap.size+1) (Xv 2 I 0 R H q.length Q u K C)/\Aa W1 (w.heap.size+2) Ek):=⟨Aa.same x0 (zU.block _ (by omega) (by simp)),(by rw[zY];exact x1.set 0 _),Aa.same x2 (zU.block _ (by omega) (by simp))⟩;have yN:=Yw zY;have J:=Yw (Za hz (Za hp (Za hl (Za zX hm))))
 have yC:Hid (Ab w w.heap.size I []):=.inl rfl;have HN:=Qt F now d a K (some ⟨b,0,none⟩) G (.slice B t.length E) (.slice A o.length D) (f.map (·.1)) W1 (AI.mono (AI.below (hz.ct V) zV) zV.size) (by rw[List.length_map];omega);rw[List.length_map]at HN;have yZ:=Yw HN
 have H0:(Aa W w.heap.size (Yh F now d a (some ⟨b,0,none⟩) f.length G B t.length E A o.length D)/\Aa W (w.heap.size+1) (Xv ph I 0 R H q.length Q u K C)/\Aa W (w.heap.size+2) Ek):=⟨x0,x1,x2⟩;obtain⟨i0,i1,i2,i3,i4,i5,i6⟩:=Hg (AS H0.1);obtain⟨⟨r0,f0⟩,⟨r1,f1⟩,⟨r2,f2⟩,⟨r3,f3⟩,⟨r4,f4⟩,⟨r5,f5⟩⟩:=r6 H0.2.1
 obtain⟨⟨y0,q0⟩,⟨y1,q1⟩,⟨y2,q2⟩,⟨y3,q3⟩,⟨y4,q4⟩,⟨y5,q5⟩,⟨y6,q6⟩,⟨y7,q7⟩,⟨y8,q8⟩,⟨y9,q9⟩,⟨L,zE⟩,⟨M,zF⟩,⟨N,zG⟩,⟨O,zH⟩,P,zI⟩:=Ho H0.2.2;clear zY hz hp hl hm x0 x1 x2 zU yE zX HN H0;go_enter func117,ntmps117;go_upto_region 1 with fail;rw[<-HW.o];clear HW;go_upto_region 22 with fail;rw[<-yN.o]
 clear yN i0 i1 i2 i3 i4 i5 i6 r0 r1 r2 r3 r4 r5 f0 f1 f2 f3 f4 f5 y0 q0 y1 q1 y2 q2 y3 q3 y4 q4 y5 q5 y6 q6 y7 q7 y8 q8 y9 q9 L zE M zF N zG O zH P zI;obtain⟨i0,i1,i2,i3,i4,i5,i6⟩:=Hg (AS H1.o.1);obtain⟨⟨r0,f0⟩,⟨r1,f1⟩,⟨r2,f2⟩,⟨r3,f3⟩,⟨r4,f4⟩,⟨r5,f5⟩⟩:=r6 H1.o.2.1;obtain⟨⟨y0,q0⟩,⟨y1,q1⟩,⟨y2,q2⟩,⟨y3,q3⟩,⟨y4,q4⟩,⟨y5,q5⟩,⟨y6,q6⟩,⟨y7,q7⟩,⟨y8,q8⟩,⟨y9,q9⟩,⟨L,zE⟩,⟨M,zF⟩,⟨N,zG⟩,⟨O,zH⟩,P,zI⟩:=Ho H1.o.2.2
 go_wp2_with fail;refine Calls.mono yZ.o ?_;rintro e w2 ⟨r,rfl,yV,zP⟩;have H2:=Yw (Za (Aa.below H1.o.1 zP) (Za (Aa.below H1.o.2.1 zP) (Aa.below H1.o.2.2 zP)));have zK:Hid (Zz w w2):=zV.trans (zP.mono zV.size);have xV:w.heap.size+3<=w2.heap.size:=by have:=zP.size;omega
 have yB:Hid (CU (f.map (·.1)) K r):=yV;clear i0 i1 i2 i3 i4 i5 i6 r0 r1 r2 r3 r4 r5 f0 f1 f2 f3 f4 f5 y0 q0 y1 q1 y2 q2 y3 q3 y4 q4 y5 q5 y6 q6 y7 q7 y8 q8 y9 q9 L zE M zF N zG O zH P zI H1 zP yV zV;obtain⟨i0,i1,i2,i3,i4,i5,i6⟩:=Hg (AS H2.o.1);obtain⟨⟨r0,f0⟩,⟨r1,f1⟩,⟨r2,f2⟩,⟨r3,f3⟩,⟨r4,f4⟩,⟨r5,f5⟩⟩:=r6 H2.o.2.1
 obtain⟨⟨y0,q0⟩,⟨y1,q1⟩,⟨y2,q2⟩,⟨y3,q3⟩,⟨y4,q4⟩,⟨y5,q5⟩,⟨y6,q6⟩,⟨y7,q7⟩,⟨y8,q8⟩,⟨y9,q9⟩,⟨L,zE⟩,⟨M,zF⟩,⟨N,zG⟩,⟨O,zH⟩,P,zI⟩:=Ho H2.o.2.2;rcases yB.o with⟨rfl,yU⟩|⟨i,k,rfl,yA,yS,yT⟩
 .have xA:Hid (∀y∈f.map (·.1),¬y.born<K):=yU;clear yU yB;go_wp2;refine bodyPost_ret (v:=.agg #[Ze,Zg F,Zg now,Zg d,Zg a,Yz b f.length G,.slice B t.length E,.slice A o.length D,Ze,Zb,Zb,Ze,Ze,Zg (C+1),Zb]) (by simp[results,results117,go_sem,y0,y1,y2,y3,y4,y5,y6,y7,y8,y9,L,M,N,O,P]) rfl ?_;refine LU.from (X:=w2) [w.heap.size+2] ?_ (Jr w2 (w.heap.size+2) _ _ _ _ _ _ _ _ _ _ _ _ _ _ _);intro wf S
  have l:=zK.o.trans (S.below zK.o.size (by simp));exact⟨⟨⟨f.map (·.1),0,0,0,C+1,[],[],[]⟩,b,G,f,_,_,none,_,_,0,rfl,.rest zW rfl (fun y hy=>Int.not_lt.2 (xA.o y hy)),rfl,J.o.1.below l V,Zr V l.size,.inl rfl,.inl rfl,.inl rfl,⟨(fun p e=>by cases e;exact .inl rfl),CV.no,CV.no,CV.no⟩,fun z hz=>hz,⟨Zx,fun _=>⟨rfl,rfl⟩⟩,⟨Zx,fun _=>⟨rfl,rfl⟩⟩,Lt.no,Lt.no⟩,l⟩
 .obtain⟨z,yJ,xJ⟩:∃z,f[i]?=some z/\z.1=k:=by rw[List.getElem?_map]at yA;obtain⟨z,h1,h2⟩:=Option.map_eq_some_iff.1 yA;exact⟨z,h1,h2⟩
  subst xJ;have HY:Hid (Li (f.map (·.1)) K z.1):=⟨Zs yA,yS,yT⟩;have xS:i<f.length:=(Zw yJ).1;have xL:¬((i:Int)<0):=by omega
  obtain⟨⟨d0,d1,_,_⟩,_⟩:=(J.o.1.below zK.o V) i z yJ;rw[Nat.zero_add]at d0 d1;obtain⟨T,zZ⟩:∃T,T=w2.setCell (Zd (w.heap.size+1) 4) (Zg z.1.born):=⟨_,rfl⟩;have zN:Tn [w.heap.size+1] w2 T:=by rw[zZ];exact Bd _ _ _ _
  have yD:Below w.heap.size w T:=zK.o.trans (zN.below zK.o.size (by simp));have H3:Hid (Aa T w.heap.size (Yh F now d a (some ⟨b,0,none⟩) f.length G B t.length E A o.length D)/\Aa T (w.heap.size+1) (Xv 2 I 0 R H q.length Q u z.1.born C)/\Aa T (w.heap.size+2) Ek):=⟨Aa.same H2.o.1 (zN.block _ (by omega) (by simp)),(by rw[zZ];exact H2.o.2.1.set 4 _),Aa.same H2.o.2.2 (zN.block _ (by omega) (by simp))⟩
  have e0:T.cell? (Zd b (i *4))=some (.string z.1.sum):=(World.cell?_of_block (zN.block b (by have:=zK.o.size;omega) (by simp;omega))).trans d0;have yO:=Yw zZ;have yX:w.heap.size+3<=T.heap.size:=by have:=zN.size;omega
  clear zZ zN yA yS yT yB yJ;go_upto_region 26 with fail;rw[<-yO.o];clear yO d0 d1 i0 i1 i2 i3 i4 i5 i6 r0 r1 r2 r3 r4 r5 f0 f1 f2 f3 f4 f5 y0 q0 y1 q1 y2 q2 y3 q3 y4 q4 y5 q5 y6 q6 y7 q7 y8 q8 y9 q9 L zE M zF N zG O zH P zI;obtain⟨i0,i1,i2,i3,i4,i5,i6⟩:=Hg (AS H3.o.1);obtain⟨⟨r0,f0⟩,⟨r1,f1⟩,⟨r2,f2⟩,⟨r3,f3⟩,⟨r4,f4⟩,⟨r5,f5⟩⟩:=r6 H3.o.2.1
  obtain⟨⟨y0,q0⟩,⟨y1,q1⟩,⟨y2,q2⟩,⟨y3,q3⟩,⟨y4,q4⟩,⟨y5,q5⟩,⟨y6,q6⟩,⟨y7,q7⟩,⟨y8,q8⟩,⟨y9,q9⟩,⟨L,zE⟩,⟨M,zF⟩,⟨N,zG⟩,⟨O,zH⟩,P,zI⟩:=Ho H3.o.2.2;have HC:=Yw (DM H Q q z.1.sum T T.heap.size (Ab.M J.o.2.2.2.2 yD) (by omega));have U:Hid (Zz w T):=yD;go_wp2_with fail;refine Calls.mono HC.o ?_;rintro e w9 ⟨rfl,yW⟩;rw[yW];clear yW HC w9 yD e0;by_cases hin:z.1.sum∈q
  .have zA:q.any (fun x=>decide (x=z.1.sum))=true:=List.any_eq_true.2 ⟨z.1.sum,hin,by simp⟩;rw[zA];clear zA;go_wp2;refine bodyPost_ret (v:=.agg #[Ze,Zg F,Zg now,Zg d,Zg a,Yz b f.length G,.slice B t.length E,.slice A o.length D,Zg 2,.slice I 0 R,.slice H q.length Q,Zg u,Zg z.1.born,Zg C,Zb]) (by simp[results,results117,go_sem,y0,y1,y2,y3,y4,y5,y6,y7,y8,y9,L,M,N,O,P]) rfl ?_
   refine LU.from (X:=T) [w.heap.size+2] ?_ (Jr T (w.heap.size+2) _ _ _ _ _ _ _ _ _ _ _ _ _ _ _);intro wf S;have l:=U.o.trans (S.below U.o.size (by simp))
   exact⟨⟨⟨f.map (·.1),2,u,z.1.born,C,[],q,[]⟩,b,G,f,_,_,none,_,_,0,rfl,.af zW rfl z.1 HY.o (.inl hin),rfl,J.o.1.below l V,Zr V l.size,yC.o.M l,J.o.2.2.2.2.M l,.inl rfl,⟨(fun p e=>by cases e;exact .inl rfl),(fun p e=> .inr (.inl ⟨p,e,rfl⟩)),(fun p e=> .inr (.inr (.inl ⟨p,e,rfl⟩))),CV.no⟩,fun z hz=>hz,yG,yF,yH.mono l.size,yI.mono l.size⟩,l⟩
  .have zA:q.any (fun x=>decide (x=z.1.sum))=false:=by simp;exact fun x hx e=>hin (e▸hx)
   rw[zA];have yK:Hid (z.1.sum∉q):=hin;have HD:=KV F now d a b 0 G E D B A f t o z.1.sum T (J.o.1.below U.o V) (Zr V U.o.size) (AO.mono (AO.below J.o.2.1 U.o) U.o.size) (AR.mono (AR.below J.o.2.2.1 U.o) U.o.size) xK xH xG (fun z hz=>Zm (J.o.2.2.2.1 z hz) (by omega)) ⟨z.1,HY.o.1,rfl⟩;have yM:=Yw HD;clear zA hin HD;go_wp2_with fail;refine Calls.mono yM.o ?_;rintro e Z ⟨zJ,yL⟩
   have zM:Below w.heap.size w Z:=U.o.trans (zJ.mono U.o.size);have H4:=Yw (Za (Aa.below H3.o.1 zJ) (Za (Aa.below H3.o.2.1 zJ) (Aa.below H3.o.2.2 zJ)));have xI:w.heap.size+3<=Z.heap.size:=Zm yX zJ.size;clear i0 i1 i2 i3 i4 i5 i6 r0 r1 r2 r3 r4 r5 f0 f1 f2 f3 f4 f5 y0 q0 y1 q1 y2 q2 y3 q3 y4 q4 y5 q5 y6 q6 y7 q7 y8 q8 y9 q9 L zE M zF N zG O zH P zI yM H3
   rcases yL with⟨zB,rfl⟩|⟨zB,g,c,rfl,yP,xD,yR⟩
   .have zR:Hid (GI t o (f.map (·.1)) z.1.sum):=zB;obtain⟨m,zC⟩:∃m,m=Z.alloc (.cells (Yg 6) 134):=⟨_,rfl⟩;have Y:Below Z.heap.size Z m:=by rw[zC];exact Zy
    have H5:(Aa m w.heap.size (Yh F now d a (some ⟨b,0,none⟩) f.length G B t.length E A o.length D)/\Aa m (w.heap.size+1) (Xv 2 I 0 R H q.length Q u z.1.born C)/\Aa m (w.heap.size+2) Ek):=⟨Aa.below H4.o.1 Y,Aa.below H4.o.2.1 Y,Aa.below H4.o.2.2 Y⟩;have n0:m.cell? (Zd (Z.heap.size) 0)=some (Zg 6):=by rw[zC];simp[go_sem]
    have zS:Hid (Zz w m):=zM.trans (Y.mono zM.size);have zT:=Yw zC;clear zC zB zM zJ Y;go_upto_region 30 with fail;rw[<-zT.o];clear zT H4;obtain⟨i0,i1,i2,i3,i4,i5,i6⟩:=Hg (AS H5.1);obtain⟨⟨r0,f0⟩,⟨r1,f1⟩,⟨r2,f2⟩,⟨r3,f3⟩,⟨r4,f4⟩,⟨r5,f5⟩⟩:=r6 H5.2.1;obtain⟨⟨y0,q0⟩,⟨y1,q1⟩,⟨y2,q2⟩,⟨y3,q3⟩,⟨y4,q4⟩,⟨y5,q5⟩,⟨y6,q6⟩,⟨y7,q7⟩,⟨y8,q8⟩,⟨y9,q9⟩,⟨L,zE⟩,⟨M,zF⟩,⟨N,zG⟩,⟨O,zH⟩,P,zI⟩:=Ho H5.2.2;go_wp2
    refine bodyPost_ret (v:=.agg #[Ze,Zg F,Zg now,Zg d,Zg a,Yz b f.length G,.slice B t.length E,.slice A o.length D,Zg 2,.slice I 0 R,.slice H q.length Q,Zg u,Zg z.1.born,Zg C,Zb]) (by simp[results,results117,go_sem,y0,y1,y2,y3,y4,y5,y6,y7,y8,y9,L,M,N,O,P]) rfl ?_;refine LU.from (X:=m) [w.heap.size+2] ?_ (Jr m (w.heap.size+2) _ _ _ _ _ _ _ _ _ _ _ _ _ _ _);intro wf S
    have l:=zS.o.trans (S.below zS.o.size (by simp));exact⟨⟨⟨f.map (·.1),2,u,z.1.born,C,[],q,[]⟩,b,G,f,_,_,none,_,_,0,rfl,.af zW rfl z.1 HY.o (.inr zR.o),rfl,J.o.1.below l V,Zr V l.size,yC.o.M l,J.o.2.2.2.2.M l,.inl rfl,⟨(fun p e=>by cases e;exact .inl rfl),(fun p e=> .inr (.inl ⟨p,e,rfl⟩)),(fun p e=> .inr (.inr (.inl ⟨p,e,rfl⟩))),CV.no⟩,fun z hz=>hz,yG,yF,yH.mono l.size,yI.mono l.size⟩,l⟩
   .have zR:Hid (¬GI t o (f.map (·.1)) z.1.sum):=zB;obtain⟨m,zC⟩:∃m,m=Z.alloc (.cells #[Ze,Zg F,Zg now,Zg d,Zg a,Yz g (Bu f z.1.sum).length c,.slice B t.length E,.slice A o.length D,Zc,Ze,Zc,Zc] 134):=⟨_,rfl⟩;have Y:Below Z.heap.size Z m:=by rw[zC];exact Zy
    have H5:=Yw (Za (Aa.below H4.o.1 Y) (Za (Aa.below H4.o.2.1 Y) (Aa.below H4.o.2.2 Y)));have n:Aa m Z.heap.size [Ze,Zg F,Zg now,Zg d,Zg a,Yz g (Bu f z.1.sum).length c,.slice B t.length E,.slice A o.length D,Zc,Ze,Zc,Zc]:=by rw[zC];exact Aa.new Z _ _
    obtain⟨n0,_⟩:=n 0 _ rfl;obtain⟨n1,_⟩:=n 1 _ rfl;obtain⟨n2,_⟩:=n 2 _ rfl;obtain⟨n3,_⟩:=n 3 _ rfl;obtain⟨n4,_⟩:=n 4 _ rfl;obtain⟨n5,_⟩:=n 5 _ rfl;obtain⟨n6,_⟩:=n 6 _ rfl;obtain⟨n7,_⟩:=n 7 _ rfl;have zS:Hid (Zz w m):=zM.trans (Y.mono zM.size);have xC:Hid (Bf m g 0 (Bu f z.1.sum)):=yP.below Y yR;have xR:w.heap.size+3<=g:=Zm yX xD;have xE:g<m.heap.size:=Zr yR Y.size
    have xW:w.heap.size+3<=m.heap.size:=Zm xI Y.size;have zT:=Yw zC;clear zC zB zM zJ Y n yP;go_upto_region 30 with fail;rw[<-zT.o];clear zT H4;obtain⟨i0,i1,i2,i3,i4,i5,i6⟩:=Hg (AS H5.o.1);obtain⟨⟨r0,f0⟩,⟨r1,f1⟩,⟨r2,f2⟩,⟨r3,f3⟩,⟨r4,f4⟩,⟨r5,f5⟩⟩:=r6 H5.o.2.1;obtain⟨W6,zO⟩:∃W6,W6=m.alloc (.cells #[.string z.1.sum] 9):=⟨_,rfl⟩;have b6:Below m.heap.size m W6:=by rw[zO];exact Zy
    have p0:W6.cell? (Zd (m.heap.size) 0)=some (.string z.1.sum):=by rw[zO];simp[go_sem]
    have xF:m.heap.size<W6.heap.size:=by rw[zO];simp
    have H6:Aa (m.alloc (.cells #[.string z.1.sum] 9)) (w.heap.size+1+1) Ek:=by rw[<-zO];exact Aa.below (v:=Ze) H5.o.2.2 b6
    have xB:=Yw zO;obtain⟨⟨y0,q0⟩,⟨y1,q1⟩,⟨y2,q2⟩,⟨y3,q3⟩,⟨y4,q4⟩,⟨y5,q5⟩,⟨y6,q6⟩,⟨y7,q7⟩,⟨y8,q8⟩,⟨y9,q9⟩,⟨L,zE⟩,⟨M,zF⟩,⟨N,zG⟩,⟨O,zH⟩,P,zI⟩:=Ho H6;have HH:=Yw (Za b6 p0);clear zO b6 p0;go_wp2
    refine bodyPost_ret (v:=.agg #[Ze,Zg F,Zg now,Zg d,Zg a,Yz g (Bu f z.1.sum).length c,.slice B t.length E,.slice A o.length D,Zg 2,.slice I 0 R,.slice H q.length Q,Zg u,Zg z.1.born,Zg C,Yz m.heap.size 1 1]) (by simp[results,results117,go_sem,y0,y1,y2,y3,y4,y5,y6,y7,y8,y9,L,M,N,O,P]) rfl ?_;rw[<-xB.o]
    refine LU.from (X:=W6) [w.heap.size+2] ?_ (Jr W6 (w.heap.size+2) _ _ _ _ _ _ _ _ _ _ _ _ _ _ _);intro wf S;have yQ:=zS.o.trans (HH.o.1.mono zS.o.size);have l:=yQ.trans (S.below yQ.size (by simp))
    refine⟨⟨⟨Eg (f.map (·.1)) z.1.sum,2,u,z.1.born,C,[],q,[z.1.sum]⟩,g,c,Bu f z.1.sum,_,_,_,_,_,1,rfl,.drop zW rfl z.1 HY.o yK.o zR.o,Je _ _,Kk (xC.o.below HH.o.1 xE) (S.block _ (by omega) (by simp;omega)) (fun v hv=> ?_),by have:=S.size;omega,yC.o.M l,J.o.2.2.2.2.M l,.inr ⟨_,0,rfl,by have:=S.size;omega,fun i s h=> ?_⟩,⟨CV.new (by omega),(fun p e=> .inr (.inl ⟨p,e,rfl⟩)),(fun p e=> .inr (.inr (.inl ⟨p,e,rfl⟩))),CV.new (by omega)⟩,fun v hv=>(List.mem_filter.1 hv).1,yG,yF,yH.mono l.size,yI.mono l.size⟩,l⟩
    .obtain⟨j,hj⟩:=List.getElem?_of_mem ((List.mem_filter.1 hv).1);obtain⟨_,ad,rc,h1,h2⟩:=J.o.1 j v hj;exact⟨ad,rc,h1,h2.M l⟩
    .match i,h with
     |0,h=>cases h;exact(World.cell?_of_block (S.block _ xF (by simp;omega))).trans HH.o.2
structure LV (w w':Zh) (e:Ending) (wd now given births:Int) (P L:Value) (ks:List Kd) (ps:List Pd) (ls:List Ld) (ph top at_ ro:Int) (qs ms:Zl) (b0:Nat) (x0 y0:Zk) (zs0:List (Kd×Value)) (r:UR) (b c:Nat) (zs:List (Kd×Value)) (qa ma da:Zk) (qc mc dc:Nat):Prop where
 e:e=.returned (.agg #[Ze,Zg wd,Zg now,Zg given,Zg births,.slice (some ⟨b,0,none⟩) r.ks.length c,P,L,Zg r.K,.slice qa r.F.length qc,.slice ma r.ms.length mc,Zg r.R,Zg r.S,Zg r.ro,.slice da r.y.length dc])
 uto:UTo ks ps ls births ph top at_ ro qs ms r
 zk:zs.map (·.1)=r.ks
 z:Bf w' b 0 zs
 lt:b<w'.heap.size
 q:Ab w' w'.heap.size qa r.F
 m:Ab w' w'.heap.size ma r.ms
 d:Ab w' w'.heap.size da r.y
 fb:CV b0 x0 y0 w.heap.size (some ⟨b,0,none⟩)
 fq:CV b0 x0 y0 w.heap.size qa
 fm:CV b0 x0 y0 w.heap.size ma
 fd:CV b0 x0 y0 w.heap.size da
 sub:∀z∈zs,z∈zs0
 cq:EC qa r.F.length qc
 cm:EC ma r.ms.length mc
 lq:Lt w' qa
 lm:Lt w' ma
 low:Below w.heap.size w w'
theorem LU.lv{C:Zh}{D d a:Int}{u:List Kd}{z:List Pd}{v:List Ld}{y g f B:Int}{A x:Zl}{s:Nat}{E F:Zk}{i:List (Kd×Value)}(h:LU w C e D now d a P L u z v y g f B A x s E F i):∃r b c q n l j o m k,LV w C e D now d a P L u z v y g f B A x s E F i r b c q n l j o m k:=by obtain⟨⟨r,b,c,q,n,l,j,o,m,k,Q,R,t,S,T,U,V,W,⟨X,Y,G,H⟩,I,K,M,N,O⟩,J⟩:=h;refine⟨r,b,c,q,n,l,j,o,m,k,?_,R,t,S,T,U,V,W,X,Y,G,H,I,K,M,N,O,J⟩;rw[Q,<-t,List.length_map]
theorem QC(y now d a:Int)(b K:Nat)(m:List (Kd×Value))(G:List Kd)(j:List Pd)(g:List Ld)(u t:Zk)(C B:Nat)(v o n x:Int)(k l:Zk)(D E:Nat)(q i:Zl)(w:Zh)(U:m.map (·.1)=G)(F:Bf w b 0 m)(H:b<w.heap.size)(S:AO w w.heap.size u j)(Q:AR w w.heap.size t g)(Z:Ab w w.heap.size k q)(P:Ab w w.heap.size l i)(M:EC k q.length D)(I:EC l i.length E)(T:Lt w k)(J:Lt w l)(f:Wy y a G j g v x q i)(N:i.length<=100000):
 Calls prog 117 #[.agg (Yj y now d a (some ⟨b,0,none⟩) G.length K u j.length C t g.length B),.agg (Xy v k q.length D l i.length E o n x)] w fun e L=>∃r W c V qa ma X qc mc Y,LV w L e y now d a (.slice u j.length C) (.slice t g.length B) G j g v o n x q i b k l m r W c V qa ma X qc mc Y:=by
 refine Calls.mono (R:=fun e L=>LU w L e y now d a (.slice u j.length C) (.slice t g.length B) G j g v o n x q i b k l m) ?_ (fun e L h=>h.lv);subst U;have O:m.length<=600:=by have:=f.ok.len;rw[List.length_map]at this;exact this
 have A:∀z∈m,z.1.B.length<=30:=fun z F=>(f.B z.1 (List.mem_map.2 ⟨z,F,rfl⟩)).1;rw[List.length_map];by_cases h0:v=0
 .subst h0;exact NP y now d a b K _ _ m j g u t C B rfl rfl o n x k l D E q i w F H S Q P I J f.pl f.ll f.b0 f.b1
 .cases q with
  |nil=>exact Oa y now d a b K m j g u t C B v o n x k l D E i w h0 F H M T S Q P I J O f.pl f.ll A N f.r0 f.r1
  |cons s q0=>exact OP y now d a b K m j g u t C B v o n x k l D E s q0 i w h0 F H Z P I J M.1 O A (by have:=f.ql;simp at this;omega) N
theorem Ab.I{a:Zk}{f:Zl}(h:Ab w w.heap.size a f)(e:Tn V w d)(g:∀p,a=some p->p.block<w.heap.size->p.block∉V):Ab d d.heap.size a f:=by
 rcases h with h|⟨b,off,rfl,c,j⟩
 .exact .inl h
 .exact .inr ⟨b,off,rfl,Zr c e.size,fun i s k=>(World.cell?_of_block (e.block b c (g _ rfl c))).trans (j i s k)⟩
theorem AO.I{a:Zk}{k:List Pd}(h:AO w w.heap.size a k)(j:Tn V w d)(l:∀p,a=some p->p.block<w.heap.size->p.block∉V):AO d d.heap.size a k:=by
 rcases h with h|⟨b,off,rfl,c,e⟩
 .exact .inl h
 .have f:=j.block b c (l _ rfl c);exact .inr ⟨b,off,rfl,Zr c j.size,fun i s g=>⟨(World.cell?_of_block f).trans (e i s g).1,(World.cell?_of_block f).trans (e i s g).2⟩⟩
theorem AR.I{g:Zh}{a:Zk}{k:List Ld}(h:AR w w.heap.size a k)(j:Tn V w g)(l:∀p,a=some p->p.block<w.heap.size->p.block∉V):AR g g.heap.size a k:=by
 rcases h with h|⟨b,off,rfl,c,d⟩
 .exact .inl h
 .have e:=j.block b c (l _ rfl c);exact .inr ⟨b,off,rfl,Zr c j.size,fun i s f=>⟨(World.cell?_of_block e).trans (d i s f).1,(World.cell?_of_block e).trans (d i s f).2.1,(World.cell?_of_block e).trans (d i s f).2.2⟩⟩
def RB(b:Nat)(ads:List (Zk))(zs:List (Kd×Value))(g:Nat):Prop:=
 g=b\/(∃p,some p∈ads/\p.block=g)\/∃z∈zs,z.1.B≠[]/\∃ad rc,z.2=.slice (some ad) z.1.B.length rc/\ad.block=g
structure RR (w:Zh) (V:List Nat) (a:Va) (b:Nat) (zs:List (Kd×Value)) (v:Vd):Prop where
 T:a.T=some ⟨b,0,none⟩
 zk:zs.map (·.1)=v.ks
 z:Bf w b 0 zs
 s:Ab w w.heap.size a.Z v.ss
 p:AO w w.heap.size a.L v.ps
 l:AR w w.heap.size a.J v.ls
 q:Ab w w.heap.size a.g v.F
 m:Ab w w.heap.size a.i v.ms
 cs:a.Z=none->v.ss.length=0/\a.j=0
 cp:a.L=none->a.Q=0
 cl:a.J=none->a.P=0
 cq:EC a.g v.F.length a.qc
 cm:EC a.i v.ms.length a.mc
 lt:∀g,RB b [a.Z,a.L,a.J,a.g,a.i] zs g->g<w.heap.size
 ap:∀g,RB b [a.Z,a.L,a.J,a.g,a.i] zs g->g∉V
theorem TH{c:List (Kd×Value)}(h:Bf w b 0 c){z:Kd×Value}(e:z∈c):∃a f,z.2=.slice (some a) z.1.B.length f/\Ab w w.heap.size (some a) z.1.B:=by obtain⟨i,d⟩:=List.getElem?_of_mem e;exact(h i z d).2
theorem RR.I{n:Zh}{U:List Nat}{j:List (Kd×Value)}(h:RR w V a b j v)(d:Tn U w n)(q:∀g∈U,g∈V\/w.heap.size<=g):RR n V a b j v:=by
 have c:∀g,RB b [a.Z,a.L,a.J,a.g,a.i] j g->g∉U:=fun g i r=>by
  rcases q g r with f|f
  .exact h.ap g i f
  .have:=h.lt g i;omega
 refine⟨h.T,h.zk,Kk h.z (d.block b (h.lt b (.inl rfl)) (c b (.inl rfl))) (fun z l=> ?_),h.s.I d (fun p e _=>c _ (.inr (.inl ⟨p,by simp[e],rfl⟩))),h.p.I d (fun p e _=>c _ (.inr (.inl ⟨p,by simp[e],rfl⟩))),h.l.I d (fun p e _=>c _ (.inr (.inl ⟨p,by simp[e],rfl⟩))),h.q.I d (fun p e _=>c _ (.inr (.inl ⟨p,by simp[e],rfl⟩))),h.m.I d (fun p e _=>c _ (.inr (.inl ⟨p,by simp[e],rfl⟩))),h.cs,h.cp,h.cl,h.cq,h.cm,fun g i=>Zr (h.lt g i) d.size,h.ap⟩
 obtain⟨k,m,f,o⟩:=TH h.z l;refine⟨k,m,f,?_⟩;by_cases hr:z.1.B=[]
 .exact .inl hr
 .exact o.I d (fun p e _=>by cases e;exact c _ (.inr (.inr ⟨z,l,hr,k,m,f,rfl⟩)))
theorem RR.clear{V':List Nat}{e:List (Kd×Value)}(h:RR w V a b e v)(f:∀g∈V',g∈V\/w.heap.size<=g):RR w V' a b e v:=
 ⟨h.T,h.zk,h.z,h.s,h.p,h.l,h.q,h.m,h.cs,h.cp,h.cl,h.cq,h.cm,h.lt,fun g d i=>by
  rcases f g i with c|c
  .exact h.ap g d c
  .have:=h.lt g d;omega⟩
def Sa(a:Va)(b tc:Nat)(qa ma:Zk)(qc mc:Nat):Va:=⟨a.Z,a.j,a.X,a.Y,some ⟨b,0,none⟩,tc,a.L,a.Q,a.J,a.P,qa,qc,ma,mc⟩
theorem RR.unit{y:Zh}{f:List (Kd×Value)}{u r:UR}(h:RR w V a b f (Ba v u))(O:∀g∈V,g<w.heap.size){Y U:Zl}{S:List Kd}{X:List Pd}{T:List Ld}{wd k i W J H ro:Int}{n G F E M:Nat}{m:List (Kd×Value)}{t s K:Zk}(c:LV w y e wd now k i P L S X T W J H ro Y U b a.g a.i f r n G m t s K F E M):RR y V (Sa a n G t s F E) n m (Ba v (u.and r)):=by
 have j:=h.I (V:=V) (Tn.of (V:=[]) c.low) Yu;have d:∀{x:Zk},CV b a.g a.i w.heap.size x->∀p,x=some p->RB b [a.Z,a.L,a.J,a.g,a.i] f p.block\/w.heap.size<=p.block:=fun Q p e=>by
  rcases Q p e with h|⟨q,h,o⟩|⟨q,h,o⟩|h
  .exact .inl (.inl h)
  .exact .inl (.inr (.inl ⟨q,by simp[h],o.symm⟩))
  .exact .inl (.inr (.inl ⟨q,by simp[h],o.symm⟩))
  .exact .inr h
 have hold:∀g,RB n [a.Z,a.L,a.J,t,s] m g->(RB b [a.Z,a.L,a.J,a.g,a.i] f g\/w.heap.size<=g)/\g<y.heap.size:=fun g l=>by
  rcases l with rfl|⟨p,C,rfl⟩|⟨z,R,I,A,Z,N,rfl⟩
  .exact⟨d c.fb ⟨g,0,none⟩ rfl,c.lt⟩
  .simp only[List.mem_cons,List.not_mem_nil,or_false]at C;rcases C with e|e|e|e|e
   .have:RB b [a.Z,a.L,a.J,a.g,a.i] f p.block:=.inr (.inl ⟨p,by simp[<-e],rfl⟩);exact⟨.inl this,j.lt _ this⟩
   .have:RB b [a.Z,a.L,a.J,a.g,a.i] f p.block:=.inr (.inl ⟨p,by simp[<-e],rfl⟩);exact⟨.inl this,j.lt _ this⟩
   .have:RB b [a.Z,a.L,a.J,a.g,a.i] f p.block:=.inr (.inl ⟨p,by simp[<-e],rfl⟩);exact⟨.inl this,j.lt _ this⟩
   .exact⟨d c.fq p e.symm,c.lq p e.symm⟩
   .exact⟨d c.fm p e.symm,c.lm p e.symm⟩
  .have:RB b [a.Z,a.L,a.J,a.g,a.i] f A.block:=.inr (.inr ⟨z,c.sub z R,I,A,Z,N,rfl⟩);exact⟨.inl this,j.lt _ this⟩
 refine⟨rfl,c.zk,c.z,j.s,j.p,j.l,c.q,c.m,h.cs,h.cp,h.cl,c.cq,c.cm,fun g l=>(hold g l).2,fun g l D=> ?_⟩;rcases(hold g l).1 with B|B
 .exact h.ap g B D
 .have:=O g D;omega
theorem RR.ji{s:List (Kd×Value)}(h:RR w V a b s v){lo:Nat}{ta:Zk}{tc:Nat}(d:Ao w lo (.slice ta v.A.length tc) v.A)(f:v.ss.length<=1048576)(g:v.A.length<=1048576)(i:v.F.length<=100000000)(j:v.ms.length<=100000000)(l:v.ks.length<=600)(m:v.ps.length<=100)(n:v.ls.length<=200)(o:∀k∈v.ks,k.B.length<=30):Jv w {a with X:=ta,Y:=tc} v:=by
 obtain⟨_,_,e,q⟩:=d.row;cases e;have r:AI w w.heap.size (some ⟨b,0,none⟩) v.ks:=by have:=h.z.ct (h.lt b (.inl rfl));rw[h.zk]at this;exact this
 refine⟨⟨h.s,q,⟨by rw[h.T];exact r,h.p,h.l⟩,h.q,h.m⟩,h.cs,d.cap.2,h.cq,h.cm,fun A e=> ?_,h.cp,h.cl,f,g,i,j,l,m,n,o⟩;have c:a.T=some A:=e;rw[h.T]at c;cases c;rw[<-h.zk];exact DR.cp h.z.some
theorem QD(v:Vd):Ba v (DZ v)=v:=by cases v;simp[Ba,DZ]
theorem RR.start{t:Nat}{S U T Q M:Value}{j:Zj}(h:AD w t S U T P L Q M j v)(f:∀u∈S::U::Q::M::T::P::L::j,∃g n c,u=Yz g n c):∃a b zs,S=.slice a.Z v.ss.length a.j/\U=.slice a.X v.A.length a.Y/\T=.slice a.T v.ks.length a.U/\P=.slice a.L v.ps.length a.Q/\L=.slice a.J v.ls.length a.P/\Q=.slice a.g v.F.length a.qc/\M=.slice a.i v.ms.length a.mc/\RR w (Al U).toList a b zs v:=by
 obtain⟨r,n1,sc,rfl⟩:=f S Yu;obtain⟨R,n2,uc,rfl⟩:=f U Yu;obtain⟨H,n3,qc,rfl⟩:=f Q Yu;obtain⟨F,n4,mc,rfl⟩:=f M Yu;obtain⟨s,n5,O,rfl⟩:=f T Yu;obtain⟨G,n6,N,rfl⟩:=f P Yu;obtain⟨E,n7,K,rfl⟩:=f L Yu;obtain⟨_,_,q,hs⟩:=h.s.row;obtain⟨_,_,W,_⟩:=h.u.row;obtain⟨_,_,X,hq⟩:=h.q.row;obtain⟨_,_,Y,hm⟩:=h.m.row;obtain⟨_,_,Z⟩:=Ax h.N.aj;obtain⟨_,_,e6⟩:=Ax h.N.pins
 obtain⟨_,_,e7⟩:=Ax h.N.aq;cases q;cases W;cases X;cases Y;cases Z;cases e6;cases e7;have V:(v.ks.zip j).length=v.ks.length:=by rw[List.length_zip,h.N.len];omega
 have B:=h.N.aj;rw[<-V]at B;have C:∀z∈v.ks.zip j,z.2∈j/\∃g c,z.2=Yz g z.1.B.length c/\Ab w w.heap.size (some ⟨g,0,none⟩) z.1.B:=fun z o=>by obtain⟨i,hi⟩:=List.getElem?_of_mem o;obtain⟨k,d⟩:=List.getElem?_zip_eq_some.1 hi;have D:=h.N.B i _ _ k d;obtain⟨g,n,c,l⟩:=f z.2 (by simp[Zs d]);refine⟨Zs d,g,c,?_⟩;rw[l]at D |-;obtain⟨_,_,e⟩:=Ax D;cases e;exact⟨rfl,Ab.own D⟩
 have x:∀g,RB s [some ⟨r,0,none⟩,some ⟨G,0,none⟩,some ⟨E,0,none⟩,some ⟨H,0,none⟩,some ⟨F,0,none⟩] (v.ks.zip j) g->g=r\/g∈BO (Yz s v.ks.length O) (Yz G v.ps.length N) (Yz E v.ls.length K) j\/g=H\/g=F:=fun g l=>by
  unfold BO;simp only[List.mem_append,Option.mem_toList,List.mem_filterMap];rcases l with rfl|⟨p,J,rfl⟩|⟨z,o,_,ad,rc,q,rfl⟩
  .exact .inr (.inl (.inl rfl))
  .simp only[List.mem_cons,List.not_mem_nil,or_false,Option.some.injEq]at J;rcases J with rfl|rfl|rfl|rfl|rfl
   .exact .inl rfl
   .exact .inr (.inl (.inr (.inl rfl)))
   .exact .inr (.inl (.inr (.inr (.inl rfl))))
   .exact .inr (.inr (.inl rfl))
   .exact .inr (.inr (.inr rfl))
  .obtain⟨k,g,c,d,_⟩:=C z o;rw[d]at q;cases q;exact .inr (.inl (.inr (.inr (.inr ⟨z.2,k,by rw[d];rfl⟩))))
 have y:=h.di;have A:=h.nd;unfold CK at y A
 refine⟨⟨some ⟨r,0,none⟩,sc,some ⟨R,0,none⟩,uc,some ⟨s,0,none⟩,O,some ⟨G,0,none⟩,N,some ⟨E,0,none⟩,K,some ⟨H,0,none⟩,qc,some ⟨F,0,none⟩,mc⟩,s,v.ks.zip j,rfl,rfl,rfl,rfl,rfl,rfl,rfl,⟨rfl,List.map_fst_zip (by rw[h.N.len];exact Zx),Bf.own B (fun z o=> ?_),hs,AO.own h.N.pins,AR.own h.N.aq,hq,hm,(fun e=>by cases e),(fun e=>by cases e),(fun e=>by cases e),h.q.cap,h.m.cap,fun g l=> ?_,fun g l hu=> ?_⟩⟩
 .obtain⟨_,g,c,d,m⟩:=C z o;exact⟨_,c,d,m⟩
 .refine y g ?_;simp only[List.mem_append,Option.mem_toList];rcases x g l with rfl|k|rfl|rfl
  .exact .inl (.inl rfl)
  .exact .inr (.inl k)
  .exact .inr (.inr (.inl rfl))
  .exact .inr (.inr (.inr rfl))
 .have eu:g=R:=by simpa [Al]using hu
  subst eu;obtain⟨k,_,m⟩:=List.nodup_append.1 A;have I:=(List.nodup_append.1 k).2.2;simp only[List.mem_append,Option.mem_toList]at m I;rcases x g l with e|h5|e|e
  .exact I r rfl g rfl e.symm
  .exact m g (.inr rfl) g (.inl h5) rfl
  .exact m g (.inr rfl) g (.inr (.inl (by rw[e];rfl))) rfl
  .exact m g (.inr rfl) g (.inr (.inr (by rw[e];rfl))) rfl
theorem Up(X:Zh)(lo a j:Nat)(U:Value)(c:Zl)(t:Zi)(h:Ao X lo U c)(o:∀g,Al U=some g->g≠a)(u:a<X.heap.size)(y:lo<=X.heap.size)(x:c.length<=100000000):
 ∃d f Y,(Builtin.append_ #[29,29] 29 #[U,Yz X.heap.size 1 1]).run prog (X.alloc (.cells #[.string t] 9))=.ok (.slice d (c.length+1) f) Y/\Y.heap[a]?=X.heap[a]? /\Tn (a::(Al U).toList) X (Y.setCell (Zd a j) (.slice d (c.length+1) f))/\Ao (Y.setCell (Zd a j) (.slice d (c.length+1) f)) lo (.slice d (c.length+1) f) (c++[t])/\∀g,Al (.slice d (c.length+1) f)=some g->Al U=some g\/X.heap.size<=g:=by
 have m:Below X.heap.size X (X.alloc (.cells #[.string t] 9)):=Zy;obtain⟨z,Y,s,n,q,r⟩:=JP (X.alloc (.cells #[.string t] 9)) lo U c (h.below m) ⟨X.heap.size,0,none⟩ 1 t (by simp[go_sem]) x Yt 29;obtain⟨d,f,rfl,_⟩:=n.row;rw[List.length_append,List.length_cons,List.length_nil,Nat.zero_add]at s n r;have l:∀g,Al (.slice d (c.length+1) f)=some g->Al U=some g\/X.heap.size<=g:=fun g e=>by
  rcases r with i|i
  .rw[i]at e;exact .inl e
  .rw[i]at e;have:=Option.some.inj e;simp at this;exact .inr Yv
 have v:Y.heap[a]?=X.heap[a]?:=(q.block a Yt (fun e=>o a e.symm rfl)).trans (m.block a u);refine⟨d,f,Y,s,v,((Tn.of (V:=[]) m).mono Yu).trans (((Nt q).mono (by simp;exact fun b h=> .inr h)).trans (Tn.set _ _ _ _ Yu)),n.I (Bd Y a j _) (fun g e k=> ?_),l⟩;simp at k;subst k;rcases l g e with i|i
 .exact o g i rfl
 .omega
def XB(v:Vd)(units:Int)(w:Zh)(e:Ending)(w':Zh):Prop:=∃o cs,Es v units o/\e=.returned (.agg cs.toArray)/\Wz v o w.heap.size w' cs/\Zz w w'
theorem Lq{X:Zh}(a:Aa X (w.heap.size+1) (z20 0)/\Zz w X):X.there (w.heap.size+1) 0 20/\(z20 1).toArray.all (·.oneCell')=true/\Aa (X.setCells (w.heap.size+1) 0 (z20 1)) (w.heap.size+1) (z20 1)/\Zz w (X.setCells (w.heap.size+1) 0 (z20 1)):=
 ⟨a.1.there,by simp[z20,Value.oneCell'],a.1.au _ rfl,a.2.trans ((AL _ _ _ _).below a.2.size Yu)⟩
end Go.Proofs.YtmjlkgpekcnacaaGreat
