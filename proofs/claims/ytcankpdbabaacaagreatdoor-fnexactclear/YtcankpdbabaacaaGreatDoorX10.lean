import Derived.Test.YtcankpdbabaacaaGreatDoorX09
set_option maxRecDepth 100000
set_option maxHeartbeats 16000000
namespace Go.Proofs.YtcankpdbabaacaaGreatDoor
open Go.ChangeShapes Go.WideShapes Go.ChangeAt Go.RowKit _root_.Go.Proofs.Tryz
variable{e a ai:Int}{i:List Kd}{k:Nat}{x:Kd×Value}{s:Zi}
def Bh(text:Zi)(refs:Zl)(wd:Int):Zi:=EN (AJ text refs wd).data.toList wd.toNat
theorem Qg(a:Int)(m n:Nat)(f:Lit->Option Value)(g:List Kd)(W:Zh)(B:Nat)(s:Zi)(w:Zh)(k:AT w 183 m n f)(o:Holds W B a g f)(d:(s.size:Int)=a):
 (¬Av g s/\Calls prog 164 #[.agg #[Zg a,.map (some m)],.string s] w fun e i=>e=.returned (.tuple #[.agg #[Zd,Zf,Zd,Zc],.bool false])/\Zz w i)\/
 ∃x ra h,x∈g/\x.sum=s/\Ad W B ra x.B/\Calls prog 164 #[.agg #[Zg a,.map (some m)],.string s] w fun e i=>e=.returned (.tuple #[.agg #[.string x.sum,Zg x.born,.string x.M,.slice ra x.B.length h],.bool true])/\Zz w i:=by
 rcases o s d with⟨b,c⟩|⟨x,ra,h,b,c,j,l⟩
 .exact .inl ⟨c,Fz a m n f s w k d _ _ _ _ _ ⟨_,_,_,rfl⟩ (by rw[b];rfl) (by rw[b];rfl)⟩
 .exact .inr ⟨x,ra,h,b,c,l,Fz a m n f s w k d _ _ _ _ _ ⟨_,_,_,rfl⟩ (by rw[j];rfl) (by rw[j];rfl)⟩
def Aca(base d m:Nat)(O P L:Value)(wd now given births:Int)(ks:List Kd)(ps:List Pd)(ls:List Ld)(text:Zi)(refs:Zl)(w:Zh)(e:Ending)(w':Zh):Prop:=
 ((¬∀r∈refs,Av ks r)/\e=.panicked [{v:=Ci 2 ⟨#[]⟩ ⟨#[]⟩,recovered:=false}]/\Zz w w')\/
 ((∀r∈refs,Av ks r)/\(
   (∃k∈ks,k.sum=Bh text refs wd/\AJ k.M k.B wd=AJ text refs wd/\e=.returned (.string (Bh text refs wd))/\Zz w w')\/
   (∃k∈ks,k.sum=Bh text refs wd/\AJ k.M k.B wd≠AJ text refs wd/\e=.panicked [{v:=Ci 3 (AJ k.M k.B wd) (AJ text refs wd),recovered:=false}]/\Zz w w')\/
   (¬Av ks (Bh text refs wd)/\(ks.length=600\/births=1000000000)/\e=.panicked [{v:=Ci 4 ⟨#[]⟩ ⟨#[]⟩,recovered:=false}]/\Zz w w')\/
   (¬Av ks (Bh text refs wd)/\ks.length<600/\births<1000000000/\e=.returned (.string (Bh text refs wd))/\(∃O',DU w' base d m O' P L wd now given (births+1) (DH ks ⟨Bh text refs wd,births+1,text,refs⟩) ps ls/\(O'.ownBlock=O.ownBlock\/∃g,O'.ownBlock=some g/\w.heap.size<=g))/\Tn (d::m::O.ownBlock.toList) w w')))
theorem YQ(n d m:Nat)(O P L:Value)(l z j c:Int)(o:List Kd)(K:List Pd)(J:List Ld)(f:Zi)(a:Zl)(ra:Zk)(rc:Nat)(w:Zh)(h:DU w n d m O P L l z j c o K J)(yG:Dj l o)(h1:1<=l)(yI:∀k∈o,k.M.size<=maxLen)(yH:((Bh f a l).size:Int)=l)(xA:f.size<=maxLen)(xH:a.length<=1000)(yY:0<=c)(xE:c<=1000000000)(hr:DG w n (vB d m O P L) ra a):
 Calls prog 181 #[Yz d,.agg #[.string f,.slice ra a.length rc]] w (Aca n d m O P L l z j c o K J f a w):=by
 obtain⟨W,hW⟩:∃W,W=w.alloc (.cells #[.string f,.slice ra a.length rc] 64):=⟨_,rfl⟩;have bW:=(AA hW).1;have xI:=(AA hW).2.1;have x0:=(AA hW).2.2;have HW:=Yx hW;have HD:Hid (∀X,Zz W X->DU X n d m O P L l z j c o K J/\DG X n (vB d m O P L) ra a/\Aa X w.heap.size [.string f,.slice ra a.length rc]/\Zz w X):=fun X hX=>by have I:=bW.trans (hX.mono Yw);exact⟨h.below I,hr.move (U:=[]) (Tn.of I) Yv (fun b I=> .inl I),Aa.below x0 hX,I⟩
 have B:=Yx yG;have yS:=Yx yI;have dj:=h.lo;clear hW h hr bW yG yI;obtain⟨zC,zE⟩:=Aa.c2 x0 0 1;go_enter func181,ntmps181;go_upto_region 1 with fail;rw[<-HW.o];clear HW;go_wp2
 go_loopw [15] (fun i wr=>∃(k:Nat),k<=a.length/\i=Zg k/\Hid ((∀r∈a.take k,Av o r)/\Zz W wr)) (fun i _=>a.length -(intOf i).toNat)
 case atStart=>exact⟨0,Nat.zero_le _,rfl,⟨fun r hr=>by simp at hr,Below.refl _ _⟩⟩
 case round=>
  clear zC zE x0;obtain⟨k,hk,rfl,H⟩:=hrel;obtain⟨V,Z,xr,yC⟩:=HD.o wr H.o.2;have zP:=Yx V;have zN:=Yx yC;obtain⟨zC,zE⟩:=Aa.c2 xr 0 1;by_cases hlt:k<a.length
  .obtain⟨b,xJ,ha,xF,hc⟩:=Z.row.at hlt;subst ha;have HG:=Yx (Zv hlt);have c0:=hc k _ HG.o;have yT:=Yx (Zu hlt);clear hc V Z;generalize a[k]=r at *
   by_cases hth:Av o r
   .have zU:=Yx (ED n d m O P L l z j c o K J r wr zP.o.I B.o.sz hth);have zG:=Yx hth;clear hth;go_wp2_with fail;refine Calls.mono zU.o ?_;rintro e w2 ⟨rfl,y⟩;have F:=Yx (H.o.2.trans (y.mono H.o.2.size));clear zU y c0 zC zE xr;go_wp2;refine⟨⟨k+1,Yw,Yp,⟨?_,F.o⟩⟩,by simp[intOf];omega⟩;rw[yT.o];intro r' C;rcases List.mem_append.1 C with C|C
    .exact H.o.1 r' C
    .simp at C;rw[C];exact zG.o
   .have yP:=Yx (Kh n d m O P L l z j c o K J r wr zP.o.I B.o.sz hth);have zG:=Yx hth;clear hth;go_wp2_with fail;refine Calls.mono yP.o ?_;rintro e w2 ⟨rfl,y⟩;go_wp2;exact⟨rfl,.inl ⟨fun p=>zG.o (p r (Zs HG.o)),rfl,zN.o.trans (y.mono zN.o.size)⟩⟩
  .obtain rfl:k=a.length:=Yw
   have p:=H.o.1;rw[Zt (Zx)]at p;have t:=Yx p;obtain⟨c0,_⟩:=V.I.box 0 _ rfl;have zM:=Yx H.o.2;clear p H;have xB:=zM.o.size;have D0:Below wr.heap.size wr wr.drew:=(Below.refl _ _).drew;have HF:=Yx (MG f ra rc a l wr.drew (Ad.j Z.row D0) Yw xA);clear V Z;go_upto_region 6 with fail;go_region_with (go_at_call 168;refine Calls.mono HF.o ?_;rintro e w2 ⟨rfl,y⟩)
   all_goals
    have F:=Yx (zM.o.trans ((D0.trans y).mono xB));obtain⟨zV,yW,xC,zJ⟩:=HD.o w2 F.o;obtain⟨yV,_⟩:=zV.I.box 0 _ rfl;have HS:=Yx (Vs (AJ f a l) l w2 (JA _ _ _) h1 B.o.w8);have yR:Hid (EN (AJ f a l).data.toList l.toNat=Bh f a l):=rfl;rw[yR.o]at HS;generalize hFF:AJ f a l=FF at *
    generalize hSS:Bh f a l=SS at *
    clear y c0 zC zE xr HF D0 yC;go_wp2_with fail;refine Calls.mono HS.o ?_;rintro e D ⟨rfl,yA⟩;have yN:=Yx (F.o.trans (yA.mono F.o.size));obtain⟨T,zZ,yM,M⟩:=HD.o D yN.o;obtain⟨d0,d1⟩:=Aa.c2 T.I.box 0 1;have zO:=Yx T;have yQ:=Yx zZ;have yU:=Yx yM;have u:=Yx M;obtain⟨n3,f3,xG,zI,zH⟩:=T.I.map;clear yA HS yV zV yW xC zJ zZ yM M T
    rcases Qg l m n3 f3 o D D.heap.size SS D zI zH.holds yH with⟨yF,G⟩|⟨x,xa,xc,zB,yL,yJ,G⟩
    .have Q:=Yx G;have zT:=Yx yF;clear G yF zI zH;go_wp2_with fail;refine Calls.mono Q.o ?_;rintro e w4 ⟨rfl,s⟩;obtain⟨Y,A⟩:∃Y,Y=w4.alloc (.cells #[Zd,Zf,Zd,Zc] 99):=⟨_,rfl⟩;have S:=(AA A).1;have q:Hid (Zz D Y):=s.trans (S.mono s.size);have HY:=Yx A;have E:=zO.o.below q.o;have yX:=Aa.below yU.o q.o;obtain⟨y0,y1⟩:=Aa.c2 yX 0 1;have v:=Yx (u.o.trans (q.o.mono u.o.size))
     by_cases hfull:o.length=600\/c=1000000000
     .have HL:=Yx (VL n d m O P L l z j c o K J SS f ra a.length rc Y E hfull);have yO:=Yx hfull;clear s A S E yX hfull d0 d1 Q;go_upto_region 10 with fail;rw[<-HY.o];go_wp2_with fail;refine Calls.mono HL.o ?_;rintro e w5 ⟨rfl,zA⟩;go_wp2;exact⟨rfl,.inr ⟨t.o,.inr (.inr (.inl ⟨hSS▸zT.o,yO.o,rfl,v.o.trans (zA.mono v.o.size)⟩))⟩⟩
     .have yE:o.length<600:=by have:=B.o.len;omega
      have yB:c<1000000000:=Yw
      have HL:=Yx (YP n d m O P L l z j c o K J SS f a ra rc Y E B.o yH yE yY yB (DG.move yQ.o (U:=[]) (Tn.of q.o) Yv (fun b I=> .inl I)));clear s A S E yX hfull d0 d1 Q;go_upto_region 10 with fail;rw[<-HY.o];go_wp2_with fail;refine Calls.mono HL.o ?_;rintro e w5 ⟨rfl,⟨O',zW,zX⟩,zY⟩;have HQ:=Yx (Zn zW (Zn zX zY));clear zW zX zY HL;go_wp2;go_ret;subst hSS
      refine .inr ⟨t.o,.inr (.inr (.inr ⟨zT.o,yE,yB,rfl,⟨O',HQ.o.1,?_⟩,(Tn.of v.o).trans HQ.o.2.2⟩))⟩;rcases HQ.o.2.1 with e|⟨g,e,hg⟩
      .exact .inl e
      .exact .inr ⟨g,e,Zm v.o.size hg⟩
    .have Q:=Yx G;have R:Hid (x∈o/\x.sum=SS):=⟨zB,yL⟩;clear G zI zH;go_wp2_with fail;refine Calls.mono Q.o ?_;rintro e w4 ⟨rfl,s⟩;obtain⟨Y,A⟩:∃Y,Y=w4.alloc (.cells #[.string x.sum,Zg x.born,.string x.M,.slice xa x.B.length xc] 99):=⟨_,rfl⟩;have S:=(AA A).1;have q:Hid (Zz D Y):=s.trans (S.mono s.size);have HY:=Yx A;have E:=zO.o.below q.o;have yK:=(AA A).2.2;obtain⟨y2,y3⟩:=Aa.c2 yK 2 3
     obtain⟨e0,_⟩:=E.I.box 0 _ rfl;have v:=Yx (u.o.trans (q.o.mono u.o.size));have DY:Below Y.heap.size Y Y.drew:=(Below.refl _ _).drew;have xD:=E.lo;have N:=Ad.j yJ (q.o.trans (DY.mono q.o.size));have zR:=Yx (MG x.M xa xc x.B l Y.drew N (by have:=(B.o.B x zB).1;omega) (yS.o x zB));clear s A S E yK d0 d1 Q yJ N zB yL;go_upto_region 12 with fail;rw[<-HY.o]
     go_region_with (go_at_call 168;refine Calls.mono zR.o ?_;rintro e w5 ⟨rfl,zA⟩)
     all_goals
      have zK:=Yx (v.o.trans ((DY.trans zA).mono v.o.size));clear zA y2 y3 e0 zR;by_cases hsame:AJ x.M x.B l=FF
      .have hq:(FF.toList !=FF.toList)=false:=Yv
       rw[hsame];have zF:=Yx hsame;clear hsame;go_wp2;go_ret;subst hSS;exact .inr ⟨t.o,.inl ⟨x,R.o.1,R.o.2,zF.o.trans hFF.symm,rfl,zK.o⟩⟩
      .have zF:=Yx hsame;have yZ:=Cd hsame;have hq:((AJ x.M x.B l).toList !=FF.toList)=true:=by simp[bne,yZ]
       clear hsame;generalize hGG:AJ x.M x.B l=GG at *
       have zS:=Yx hGG;clear hGG;go_wp2;subst hSS;refine⟨rfl,.inr ⟨t.o,.inr (.inl ⟨x,R.o.1,R.o.2,?_,?_,zK.o⟩)⟩⟩
       .rw[zS.o,hFF];exact zF.o
       .rw[zS.o,hFF];rfl
def CF(wd births:Int)(ks:List Kd)(text:Zi)(refs:Zl)(ks1:List Kd)(ai:Int):Prop:=
 (∃k∈ks,k.sum=Bh text refs wd/\AJ k.M k.B wd=AJ text refs wd/\ks1=ks/\ai=births)\/
 (¬Av ks (Bh text refs wd)/\ks.length<600/\births<1000000000/\ks1=DH ks ⟨Bh text refs wd,births+1,text,refs⟩/\ai=births+1)
def Gp(wd given births:Int)(ks:List Kd)(ls:List Ld)(text:Zi)(refs:Zl)(c:Int)(a b:Zi):Prop:=
 ((¬∀r∈refs,Av ks r)/\c=2/\a=⟨#[]⟩/\b=⟨#[]⟩)\/
 ((∀r∈refs,Av ks r)/\(
   (∃k∈ks,k.sum=Bh text refs wd/\AJ k.M k.B wd≠AJ text refs wd/\c=3/\a=AJ k.M k.B wd/\b=AJ text refs wd)\/
   (¬Av ks (Bh text refs wd)/\(ks.length=600\/births=1000000000)/\c=4/\a=⟨#[]⟩/\b=⟨#[]⟩)\/
   ((∃ks1 ai,CF wd births ks text refs ks1 ai)/\(ls.length=200\/given=1000000000)/\c=4/\a=⟨#[]⟩/\b=⟨#[]⟩)))
theorem CF.there{c:Zi}{b:Zl}{d:List Kd}(h:CF e a i c b d ai):Av d (Bh c b e):=by
 rcases h with⟨k,f,g,_,rfl,_⟩|⟨_,_,_,rfl,_⟩
 .exact⟨k,f,g⟩
 .exact⟨⟨Bh c b e,a+1,c,b⟩,KT.2 Yv,rfl⟩
theorem CF.sz{d:Zi}{c:Zl}{g:List Kd}(h:CF e a i d c g ai)(f:∀k∈i,(k.sum.size:Int)=e)(j:((Bh d c e).size:Int)=e):∀k∈g,(k.sum.size:Int)=e:=by
 rcases h with⟨k,b,l,_,rfl,_⟩|⟨_,_,_,rfl,_⟩
 .exact f
 .intro k b;rcases List.mem_append.1 (KT.1 b)with b|b
  .exact f k b
  .simp at b;rw[b];exact j
theorem NJ(q d m:Nat)(O P L:Value)(p z f n:Int)(E:List Kd)(ps:List Pd)(C:List Ld)(s R l:Zi)(u:Int)(i:Zl)(ra:Zk)(N:Nat)(w:Zh)(h:DU w q d m O P L p z f n E ps C)(zU:Dj p E)(h1:1<=p)(xB:∀k∈E,k.M.size<=maxLen)(yH:((Bh l i p).size:Int)=p)(xA:l.size<=maxLen)(yX:i.length<=1000)(yP:0<=n)(yQ:n<=1000000000)(hr:DG w q (vB d m O P L) ra i)(hl:C.length<=200)(yT:0<=f)(xI:f<=1000000000)(yV:0<=z)(yW:z<=1000000000)(yY:0<=u)(yZ:u<=1000000000):
 Calls prog 149 #[Yz d,.agg (Yh 1 s R u l ra i.length N)] w fun e w'=>(∃c a b,Gp p f n E C l i c a b/\e=.panicked [{v:=Ci c a b,recovered:=false}]/\Tn (vB d m O P L) w w')\/
  (∃A ai,(∀r∈i,Av E r)/\CF p n E l i A ai/\C.length<200/\f<1000000000/\e=.returned (.agg #[Zf,Zf,Zf,Zf,Zf,Zc,Zc,Zc,.string (Bh l i p),Zg (f+1),Zd,Zd])/\∃O' L',DU w' q d m O' P L' p z (f+1) ai A ps (C++[⟨f+1,Bh l i p,z+u⟩])/\Tn (vB d m O P L) w w'):=by
 obtain⟨W,Q⟩:∃W,W=((w.alloc (.cells (Yh 1 s R u l ra i.length N) 66)).alloc (.cells Yg 88)).alloc (.cells Yg 88):=⟨_,rfl⟩;have hB:=(Bq Q).1;have yI:=(Bq Q).2.1;have xE:=(Bq Q).2.2.1;have zR:Aa W (w.heap.size+1) z12:=by have h1:=Aa.new (w.alloc (.cells (Yh 1 s R u l ra i.length N) 66)) z12 88;rw[World.size_alloc]at h1;rw[Q];exact Aa.below (v:=Zf) h1 (Zy)
 have zO:Aa W (w.heap.size+2) z12:=by have h1:=Aa.new ((w.alloc (.cells (Yh 1 s R u l ra i.length N) 66)).alloc (.cells Yg 88)) z12 88;rw[World.size_alloc,World.size_alloc]at h1;rw[Q];exact h1
 have yD:W.heap[w.heap.size+1]?=some (.cells Yg 88):=by rw[Q,Below.heap_alloc _ _ _ Yv];have:=heap_alloc_new (w.alloc (.cells (Yh 1 s R u l ra i.length N) 66)) (.cells Yg 88);rw[World.size_alloc]at this;exact this
 have yA:W.heap[w.heap.size+2]?=some (.cells Yg 88):=by have:=heap_alloc_new ((w.alloc (.cells (Yh 1 s R u l ra i.length N) 66)).alloc (.cells Yg 88)) (.cells Yg 88);rw[World.size_alloc,World.size_alloc]at this;rw[Q];exact this
 have hD:=h.below hB;have xH:=h.I.box.lt;have yG:∀b∈vB d m O P L,b<w.heap.size:=h.I.cf;have xG:q<=w.heap.size:=h.lo;have HC:=Yx (YQ q d m O P L p z f n E ps C l i ra N W hD zU h1 xB yH xA yX yP yQ (hr.move (U:=[]) (Tn.of hB) Yv (fun b o=> .inl o)));have HW:=Yx Q;have HZ:=Yx (Zb zR (Zb zO (Zb yD (Zb yA (Zb hB (Zb yI xE))))));have zX:Hid (∀b∈vB d m O P L,b<w.heap.size):=yG
 have yK:Hid (DU W q d m O P L p z f n E ps C):=hD;have yL:Hid (∀k∈E,(k.sum.size:Int)=p):=zU.sz;obtain⟨e0,e3,e4,e5⟩:=Aa.c4 xE 0 3 4 5;clear Q h hD zR zO yD yA hB yI xE yG hr zU;go_enter func149,ntmps149;go_upto_region 2 with fail;rw[<-HW.o];clear HW;go_wp2_with fail;refine Calls.mono HC.o ?_;intro e F I;have zI:Tn (vB d m O P L) w W:=Tn.of HZ.o.2.2.2.2.1;obtain⟨hrefs,rfl,o⟩|⟨H,I⟩:=I
 .clear e0 e3 e4 e5;go_wp2;exact⟨rfl,.inl ⟨2,_,_,.inl ⟨hrefs,rfl,rfl,rfl⟩,rfl,zI.trans (Tn.of o)⟩⟩
 have zN:(∃c a b,Gp p f n E C l i c a b/\e=.panicked [{v:=Ci c a b,recovered:=false}]/\Tn (vB d m O P L) W F)\/(e=.returned (.string (Bh l i p))/\∃A ai O1,CF p n E l i A ai/\DU F q d m O1 P L p z f ai A ps C/\Tn (vB d m O P L) W F/\(O1.ownBlock=O.ownBlock\/∃g,O1.ownBlock=some g/\W.heap.size<=g)):=by
  rcases I with⟨k,hk,hs,hf,rfl,o⟩|⟨k,hk,hs,hf,rfl,o⟩|⟨zC,x,rfl,o⟩|⟨zC,yU,yS,rfl,⟨O',zS,zH⟩,ht⟩
  .exact .inr ⟨rfl,E,n,O,.inl ⟨k,hk,hs,hf,rfl,rfl⟩,yK.o.below o,Tn.of o,.inl rfl⟩
  .exact .inl ⟨3,_,_,.inr ⟨H,.inl ⟨k,hk,hs,hf,rfl,rfl,rfl⟩⟩,rfl,Tn.of o⟩
  .exact .inl ⟨4,_,_,.inr ⟨H,.inr (.inl ⟨zC,x,rfl,rfl,rfl⟩)⟩,rfl,Tn.of o⟩
  .exact .inr ⟨rfl,_,_,O',.inr ⟨zC,yU,yS,rfl,rfl⟩,zS,ht.mono (by intro b o;unfold vB;simp at o |-;rcases o with rfl|rfl|o<;>simp[*]),zH⟩
 clear I;have zF:Hid (∀r∈i,Av E r):=H;clear H;obtain⟨c,a,b,zC,rfl,ht⟩|⟨rfl,A,ai,O1,K,zT,Z,zS⟩:=zN
 .clear e0 e3 e4 e5;go_wp2;exact⟨rfl,.inl ⟨c,a,b,zC,rfl,zI.trans ht⟩⟩
 have zz:=HZ.o.2.2.2.2.2.1;have zB:∀j,w.heap.size<=j->j∉vB d m O P L:=fun j hj h=>by have:=zX.o _ h;omega
 have zM:Aa F (w.heap.size+1) z12:=Aa.same HZ.o.1 (Z.block _ Yw (zB _ Yw));have zE:Aa F (w.heap.size+2) z12:=Aa.same HZ.o.2.1 (Z.block _ Yw (zB _ Yw));have zK:Aa F w.heap.size (Ye 1 s R u l ra i.length N):=Aa.same HZ.o.2.2.2.2.2.2 (Z.block _ Yw (zB _ Yw))
 have T:F.heap[w.heap.size+1]?=some (.cells Yg 88):=(Z.block _ Yw (zB _ Yw)).trans HZ.o.2.2.1;have t:F.heap[w.heap.size+2]?=some (.cells Yg 88):=(Z.block _ Yw (zB _ Yw)).trans HZ.o.2.2.2.1;obtain⟨X,hX⟩:∃X,X=F.setCell (Ze (w.heap.size+2) 8) (.string (Bh l i p)):=⟨_,rfl⟩;have S:Tn [w.heap.size+2] F X:=by rw[hX];exact AM _ _ _ _
 have B:Aa X (w.heap.size+2) (z12.set 8 (.string (Bh l i p))):=by rw[hX];exact zE.set 8 _
 have G:Aa X (w.heap.size+1) z12:=Aa.same zM (S.block _ zM.lt Yv);have zV:Aa X w.heap.size (Ye 1 s R u l ra i.length N):=Aa.same zK (S.block _ zK.lt Yv);have M:DU X q d m O1 P L p z f ai A ps C:=zT.Y S (by intro b o;simp at o;subst o;exact⟨Yw,zT.cz t Yw⟩);have o8:=(zE 8 _ rfl).2;have v8:=(zE 8 _ rfl).1;have J:=K.sz yL.o yH;have zA:=Yx (Zn K (Zn zT (Zn Z zS)))
 have zP:=Yx (Zn S (Zn B (Zn G (Zn M (Zn t T)))));have zY:=Yx hX;have yM:Hid (∃yN,X.heap[w.heap.size+2]?=some (.cells yN 88)):=⟨_,by rw[hX,setCell_eq_setRow F _ _ _ _ _ _ t];exact setRow_heap F _ _ _ _ _ t⟩;obtain⟨yO,_⟩:=zV 3 _ rfl;have s8:=(B 8 _ rfl).1;have xF:w.heap.size+2<X.heap.size:=B.lt;by_cases x:C.length=200\/f=1000000000
 .have HL:=Yx (Nc q d m O1 P L p z f ai A ps C (Bh l i p) u X M J K.there x);clear e0 e3 e4 e5 hX S B G zV M zM zE zK T t J HC;go_upto_region 5 with fail;rw[<-zY.o];go_wp2_with fail;refine Calls.mono HL.o ?_;rintro e w2 ⟨rfl,yR⟩;go_wp2;refine⟨rfl,.inl ⟨4,_,_,.inr ⟨zF.o,.inr (.inr ⟨⟨_,_,zA.o.1⟩,x,rfl,rfl,rfl⟩)⟩,rfl,?_⟩⟩
  have t0:=(zI.trans zA.o.2.2.1).fresh zP.o.1 (show w.heap.size<=w.heap.size+2 by omega);exact t0.trans (Tn.of yR)
 .have yF:C.length<200:=Yw
  have yE:f<1000000000:=Yw
  have HL:=Yx (OL q d m O1 P L p z f ai A ps C (Bh l i p) u X M J K.there yF yT yE yV yW yY yZ);clear e0 e3 e4 e5 hX S B G zV M zM zE zK T t J HC x;go_upto_region 5 with fail;rw[<-zY.o];go_wp2_with fail;refine Calls.mono HL.o ?_;rintro e w2 ⟨rfl,L',zJ,Y⟩;obtain⟨S,B,G,M,t,T⟩:=zP.o;have D:∀b∈d::L.ownBlock.toList,b<w.heap.size:=fun b o=>zX.o b (by unfold vB;simp at o |-;rcases o with rfl|o<;>simp[*])
  have yJ:Aa w2 (w.heap.size+1) z12:=Aa.same G (Y.block _ G.lt (fun h=>by have:=D _ h;omega));have y:Aa w2 (w.heap.size+2) (z12.set 8 (.string (Bh l i p))):=Aa.same B (Y.block _ B.lt (fun h=>by have:=D _ h;omega));have yC:X.heap[w.heap.size+1]?=_:=(S.block _ (by have:=zA.o.2.2.1.size;omega) Yv).trans T
  have yB:w2.heap[w.heap.size+1]?=some (.cells Yg 88):=(Y.block _ G.lt (fun h=>by have:=D _ h;omega)).trans yC;obtain⟨zW,zZ⟩:=yM.o;have zH:w2.heap[w.heap.size+2]?=some (.cells zW 88):=(Y.block _ B.lt (fun h=>by have:=D _ h;omega)).trans zZ;have zG:=Yx (Zn zJ (Zn Y (Zn (zJ.cz yB Yw) (zJ.cz zH Yw))))
  obtain⟨⟨y0,q0⟩,⟨y1,q1⟩,⟨y2,q2⟩,⟨y3,q3⟩,⟨y4,q4⟩,⟨y5,q5⟩,⟨y6,q6⟩,⟨y7,q7⟩,⟨y8,q8⟩,⟨y9,q9⟩,⟨xC,xL⟩,xD,xM⟩:=AY yJ;obtain⟨v0,p0⟩:=y 0 _ rfl;obtain⟨v1,p1⟩:=y 1 _ rfl;obtain⟨v2,p2⟩:=y 2 _ rfl;obtain⟨v3,p3⟩:=y 3 _ rfl;obtain⟨v4,p4⟩:=y 4 _ rfl;obtain⟨v5,p5⟩:=y 5 _ rfl;obtain⟨v6,p6⟩:=y 6 _ rfl;obtain⟨v7,p7⟩:=y 7 _ rfl;obtain⟨xP,p8⟩:=y 8 _ rfl;obtain⟨v9,p9⟩:=y 9 _ rfl;obtain⟨xN,xJ⟩:=y 10 _ rfl
  obtain⟨xO,xK⟩:=y 11 _ rfl;clear zJ Y yJ y yB zH yC S B G M t T HL D zZ yO s8 o8 v8;go_wp2;refine bodyPost_ret (v:=.agg #[Zf,Zf,Zf,Zf,Zf,Zc,Zc,Zc,.string (Bh l i p),Zg (f+1),Zd,Zd]) (by simp[results,results149,go_sem,y0,y1,y2,y3,y4,y5,y6,y7,y8,y9,xC,xD]) rfl ?_
  have T9:=(Tn.set (V:=[w.heap.size+1,w.heap.size+2]) w2 (w.heap.size+2) 9 (Zg (f+1)) Yv).trans (Tn.mono (Bd (w2.setCell (Ze (w.heap.size+2) 9) (Zg (f+1))) (w.heap.size+1) Zf Zf Zf Zf Zf Zc Zc Zc (.string (Bh l i p)) (Zg (f+1)) Zd Zd) Yv)
  refine .inr ⟨A,ai,zF.o,zA.o.1,yF,yE,rfl,O1,L',zG.o.1.Y T9 (by intro b o;simp at o;rcases o with rfl|rfl;exact⟨Yw,zG.o.2.2.1⟩;exact⟨Yw,zG.o.2.2.2⟩),?_⟩;have t0:=(zI.trans zA.o.2.2.1).fresh zP.o.1 (show w.heap.size<=w.heap.size+2 by omega);have t1:=t0.trans (zG.o.2.1.mono (V':=vB d m O P L) (by intro b o;unfold vB;simp at o |-;rcases o with rfl|o<;>simp[*]))
  exact⟨T9.os.trans t1.os,T9.tape.trans t1.tape,T9.output.trans t1.output,Zm t1.size T9.size,fun b o hv=>(T9.block b (Zr o t1.size) Yu).trans (t1.block b o hv)⟩
def YR(w w':Zh)(e:Ending)(wd now given births:Int)(T P L:Value)(ls:List Ld)(s:Zi)(hold:Int)(base:Nat):Prop:=
 Tn L.ownBlock.toList w w'/\(((200<=ls.length\/1000000000<=given)/\e=.returned (.agg #[Zg 4,Zf,Zf,Zf,Zf,Zc,Zc,Zc,Zd,Zf,Zd,Zd]))\/
  ((ls.length<200/\given<1000000000)/\∃g c,e=.returned (.agg #[Zf,Zg wd,Zg now,Zg (given+1),Zg births,T,P,.slice (some ⟨g,0,none⟩) (ls.length+1) c,Zd,Zg (given+1),Zd,Zd])/\w'.ownsRow base 164 3 (.slice (some ⟨g,0,none⟩) (ls.length+1) c) (ls++[(⟨given+1,s,now+hold⟩:Ld)]).length (Ab lC (ls++[(⟨given+1,s,now+hold⟩:Ld)]))/\(L.ownBlock=some g\/w.heap.size<=g)))
theorem IA(u i a d:Int)(r n k:Zk)(tn t p o l j:Nat)(f:List Ld)(s:Zi)(hold:Int)(w:Zh)(K:w.ownsRow j 164 3 (.slice k f.length l) f.length (Ab lC f))(zA:j<=w.heap.size)(hl:f.length<=1000)(zO:0<=a)(zP:a<=1000000000)(zG:0<=i)(zH:i<=1000000000)(zI:0<=hold)(zJ:hold<=1000000000):
 Calls prog 140 #[.agg (Yi u i a d r tn t n p o k f.length l),.string s,Zg hold] w fun e w'=>YR w w' e u i a d (.slice r tn t) (.slice n p o) (.slice k f.length l) f s hold j:=by
 obtain⟨W,m⟩:∃W,W=(w.alloc (.cells (Yi u i a d r tn t n p o k f.length l) 40)).alloc (.cells Yg 88):=⟨_,rfl⟩;have C:=(Bo m).1;have T:=(Bo m).2.1;have A:=(Bo m).2.2.1;have O:Aa W (w.heap.size+1) z12:=by have h1:=Aa.new (w.alloc (.cells (Yi u i a d r tn t n p o k f.length l) 40)) z12 88;rw[World.size_alloc]at h1;rw[m];exact h1
 have I:=Yx m;have HB:=Yx C;by_cases hfull:200<=f.length\/1000000000<=a
 .obtain⟨⟨y0,q0⟩,⟨y1,q1⟩,⟨y2,q2⟩,⟨y3,q3⟩,⟨y4,q4⟩,⟨y5,q5⟩,⟨y6,q6⟩,⟨y7,q7⟩,⟨y8,q8⟩,⟨y9,q9⟩,⟨G,zK⟩,H,zM⟩:=AY O;obtain⟨v0,v1,v2,v3,v4,v5,v6,v7⟩:=AR A;have HF:=Yx hfull;have D:(decide ((200:Int)<=(f.length:Int))=true)\/(decide ((200:Int)<=(f.length:Int))=false/\decide ((1000000000:Int)<=a)=true):=by
   by_cases h:200<=f.length
   .left;simp;omega
   .right;refine⟨Yu,?_⟩;rcases hfull with Y|Y
    .exact absurd Y h
    .simpa using Y
  clear m A O C T hfull K;rcases D with D|⟨D,zN⟩
  all_goals
   go_enter func140,ntmps140;go_upto_region 1 with fail;rw[<-I.o];clear I;go_wp2;refine bodyPost_ret (v:=.agg (Yf 4)) (by simp[results,results140,go_sem,y0,y1,y2,y3,y4,y5,y6,y7,y8,y9,G,H]) rfl ?_;exact⟨Tn.of (HB.o.trans (Tn.below (Bd W (w.heap.size+1) _ _ _ _ _ _ _ _ _ _ _ _) HB.o.size (by intro v Z;simp at Z;omega))),.inl ⟨HF.o,rfl⟩⟩
 .have zF:f.length<200/\a<1000000000:=Yw
  obtain⟨X,J⟩:∃X,X=W.setCell (Ze (w.heap.size) 2) (Zg (a+1)):=⟨_,rfl⟩;have L:Tn [w.heap.size] W X:=by rw[J];exact AM _ _ _ _
  have M:Aa X w.heap.size (Yj u i (a+1) d r tn t n p o k f.length l):=by rw[J];exact A.set 2 _
  have u1:=Aa.same O (L.block _ Yw Yv);have E:=C.trans (L.below C.size Yv);have dj:∀g,(Value.slice k f.length l).ownBlock=some g->g<w.heap.size:=fun g hg=>(Ac K hg).2;have S:=Ae K E;have zV:w.heap.size+2<=X.heap.size:=by have:=L.size;omega
  obtain⟨g,c,N,F,R,y,Q⟩:=Oi X j _ f S (⟨a+1,s,i+hold⟩:Ld) Yw Yw 38;dsimp only at F;have U:=Aa.same M (y.block _ M.lt (fun e=>by have:=dj _ e.symm;omega));have e1:=Aa.same u1 (y.block _ Yw (fun e=>by have:=dj _ e.symm;omega));obtain⟨c2,f2⟩:=A 2 _ rfl;obtain⟨c6,_⟩:=A 6 _ rfl;obtain⟨d1,d2,d6⟩:=Aa.c3 M 1 2 6;obtain⟨i0,i1,i2,i3,i4,i5,i6,i7⟩:=AR U
  obtain⟨⟨y0,q0⟩,⟨y1,q1⟩,⟨y2,q2⟩,⟨y3,q3⟩,⟨y4,q4⟩,⟨y5,q5⟩,⟨y6,q6⟩,⟨y7,q7⟩,⟨y8,q8⟩,⟨y9,q9⟩,⟨G,zK⟩,H,zM⟩:=AY e1;have k6:=(U 6 _ rfl).2;have zU:=Ho zG zH zI zJ;have zS:¬((200:Int)<=(f.length:Int)):=Yw
  have zT:¬((1000000000:Int)<=a):=Yw
  have P:=Yx J;have B:=Yx (Zb R (Zb y Q));have zB:=Yx E;have zE:=Yx dj;have zC:=Yx zF;clear m J A O M u1 L U e1 C T S K R y Q E dj hfull;go_enter func140,ntmps140;go_upto_region 1 with fail;rw[<-I.o];clear I;go_upto_region 4 with fail;rw[<-P.o];clear P c2 f2 c6;go_wp2_with (at_builtin;refine wpList_append_run rfl _ _ 38 38 rfl rfl rfl F ?_);clear F d1 d2 d6;go_wp2
  refine bodyPost_ret (v:=.agg #[Zf,Zg u,Zg i,Zg (a+1),Zg d,.slice r tn t,.slice n p o,Za g (f.length+1) c,Zd,Zg (a+1),Zd,Zd]) (by simp[results,results140,go_sem,y0,y1,y2,y3,y4,y5,y6,y7,y8,y9,G,H]) rfl ?_
  have x:=(Tn.set (V:=[w.heap.size,w.heap.size+1]) N w.heap.size 6 (Za g (f.length+1) c) Yv).trans (Tn.mono (Bd (N.setCell (Ze (w.heap.size) 6) (Za g (f.length+1) c)) (w.heap.size+1) Zf (Zg u) (Zg i) (Zg (a+1)) (Zg d) (.slice r tn t) (.slice n p o) (Za g (f.length+1) c) Zd (Zg (a+1)) Zd Zd) Yv);have z:=(Tn.of zB.o).trans (BV B.o.2.1);have zR:g<w.heap.size\/w.heap.size+2<=g:=by
   rcases B.o.2.2 with e|e
   .exact .inl (zE.o g e)
   .exact .inr Yw
  refine⟨⟨x.os.trans z.os,x.tape.trans z.tape,x.output.trans z.output,Zm z.size x.size,fun b hb Z=>(x.block b (Zr hb z.size) Yu).trans (z.block b hb Z)⟩,.inr ⟨zC.o,g,c,rfl,Ak B.o.1 (fun q hq=>x.block q (Ac B.o.1 hq).2 ?_),?_⟩⟩
  .obtain rfl:g=q:=by simpa [Value.ownBlock]using hq
   simp;omega
  .rcases B.o.2.2 with e|e
   .exact .inl e
   .exact .inr Yw
theorem LP(w:Zh)(b:Nat)(v:Value)(d:List (Kd×Value))(y:w.ownsRow b 99 4 v d.length (Ab kC d))(z:Kd×Value)(B:∃a n c,z.2=.slice a n c)(x:d.length<=1000000)(k:b<=w.heap.size)(l:TypeId):
 ∃g cap h,(Builtin.append_ #[36,36] l #[v,Za w.heap.size 1 1]).run prog (w.alloc (.cells #[.string z.1.sum,Zg z.1.born,.string z.1.M,z.2] 99))=.ok (Za g (d.length+1) cap) h/\h.ownsRow b 99 4 (Za g (d.length+1) cap) (d++[z]).length (Ab kC (d++[z]))/\w.grownBy h v.ownBlock/\(v.ownBlock=some g\/g=w.heap.size+1):=by
 obtain⟨C,t,o,p,q⟩:=info_parts Hf;have m:=Ae y ((Below.refl _ _).alloc (Zx) (.cells #[.string z.1.sum,Zg z.1.born,.string z.1.M,z.2] 99));have s:∀j u,(Ab kC [z])[j]?=some u->(w.alloc (.cells #[.string z.1.sum,Zg z.1.born,.string z.1.M,z.2] 99)).cell? ((⟨w.heap.size,0,none⟩:Addr).add j)=some u:=by intro j u hu;rw[Go.WideShapes.add_plain,Nat.zero_add];exact(Aa.new w [.string z.1.sum,Zg z.1.born,.string z.1.M,z.2] 99 j u (by simpa [Ab,kC]using hu)).1
 obtain⟨D,h,A,i,r,_,f⟩:=run_append_own_at (P:=prog) (w.alloc (.cells #[.string z.1.sum,Zg z.1.born,.string z.1.M,z.2] 99)) b 36 l 99 C _ 4 64 underlying36 t o p q rfl Ys v d.length (Ab kC d) m ⟨w.heap.size,0,none⟩ 1 1 (Ab kC [z]) (by simp[Ab,kC]) s (by intro u hu;obtain⟨a,n,c,e⟩:=B;simp[Ab,kC,e]at hu;rcases hu with rfl|rfl|rfl|rfl<;>rfl) Yq Yw Yu
 obtain⟨g,cap,rfl,_,_⟩:=Cc i (fun e=>by subst e;rcases i.2 with⟨_,x⟩|⟨_,_,_,e,_⟩<;>first|omega|cases e);refine⟨g,cap,h,A,?_,(World.grownBy_alloc w _ _).trans r,?_⟩
 .rw[Iw,List.length_append];exact i
 .rcases f with f|f
  .exact .inl f.symm
  .right;simpa [Value.ownBlock]using f
def zD(zs:List (Kd×Value))(s:Zi):Bool:= !(zs.all (fun z=>less z.1.sum s))
def zQ(zs:List (Kd×Value))(one:Kd×Value):List (Kd×Value):=zs.filter (fun z=>less z.1.sum one.1.sum)++(if zD zs one.1.sum then [one]else [])++zs.filter (fun z=> !(less z.1.sum one.1.sum))
def CQ(zs:List (Kd×Value))(one:Kd×Value):List (Kd×Value):=zs.filter (fun z=>less z.1.sum one.1.sum)++[one]++zs.filter (fun z=> !(less z.1.sum one.1.sum))
theorem VM(a:List (Kd×Value))(one:Kd×Value):(CQ a one).map (·.1)=DH (a.map (·.1)) one.1:=by unfold CQ DH;rw[List.map_append,List.map_append,List.filter_map,List.filter_map];rfl
theorem KV{a:List (Kd×Value)}{one z:Kd×Value}(h:z∈CQ a one):z∈a\/z=one:=by
 unfold CQ at h;simp only[List.mem_append,List.mem_filter,List.mem_singleton]at h;rcases h with(h|h)|h
 .exact .inl h.1
 .exact .inr h
 .exact .inl h.1
theorem Ki{a:List (Kd×Value)}(s:Zi)(c:a[k]?=some x):zD (a.take (k+1)) s=(zD (a.take k) s|| !(less x.1.sum s)):=by obtain⟨b,rfl⟩:=Zw c;unfold zD;rw[Zu b,List.all_append];simp
theorem IX{a:List (Kd×Value)}(h:zD a s=false):a.filter (fun z=> !(less z.1.sum s))=[]:=by
 rw[List.filter_eq_nil_iff];intro x b;have:less x.1.sum s=true:=by unfold zD at h;simp only[Bool.not_eq_false']at h;exact List.all_eq_true.1 h x b
 simp[this]
theorem VN{a:List (Kd×Value)}(one:Kd×Value)(e:a[k]?=some x)(c:zD (a.take k) one.1.sum=false)(d:less x.1.sum one.1.sum=true):zQ (a.take (k+1)) one=zQ (a.take k) one++[x]:=by have b:=Ki one.1.sum e;rw[c,d]at b;unfold zQ;rw[IX c,IX (by rw[b];rfl),b,c];obtain⟨f,rfl⟩:=Zw e;rw[Zu f,List.filter_append];simp[d]
theorem Acb{a:List (Kd×Value)}(one:Kd×Value)(f:a[k]?=some x)(b:zD (a.take k) one.1.sum=false)(e:less x.1.sum one.1.sum=false):zQ (a.take (k+1)) one=zQ (a.take k) one++[one]++[x]:=by have c:=Ki one.1.sum f;rw[b,e]at c;have d:=IX b;unfold zQ;rw[d,c,b];obtain⟨g,rfl⟩:=Zw f;rw[Zu g,List.filter_append,List.filter_append,d];simp[e]
theorem YS{c:List (Kd×Value)}(one:Kd×Value)(f:(c.map (·.1.sum)).Pairwise (fun a b=>less a b=true))(n:c[k]?=some x)(g:zD (c.take k) one.1.sum=true):zQ (c.take (k+1)) one=zQ (c.take k) one++[x]:=by
 have m:=Ki one.1.sum n;rw[g,Bool.true_or]at m;obtain⟨i,rfl⟩:=Zw n;obtain⟨y,r,l⟩:∃y∈c.take k,less y.1.sum one.1.sum=false:=by unfold zD at g;simpa using g
 obtain⟨j,p⟩:=List.getElem?_of_mem r;obtain⟨o,e⟩:=Zw p;rw[List.length_take]at o;rw[List.getElem_take]at e;have d:=List.pairwise_iff_getElem.1 f j k Yu (by simpa using i) Yw;rw[List.getElem_map,List.getElem_map,e]at d;have q:less c[k].1.sum one.1.sum=false:=by
  cases h:less c[k].1.sum one.1.sum with
  |false=>rfl
  |true=>rw[Cw d h]at l;cases l
 unfold zQ;rw[m,g,Zu i,List.filter_append,List.filter_append];simp[q]
theorem Aad{a:List (Kd×Value)}(one:Kd×Value)(b:zD a one.1.sum=true):zQ a one=CQ a one:=by unfold zQ CQ;rw[b];rfl
theorem Acd{a:List (Kd×Value)}(one:Kd×Value)(b:zD a one.1.sum=false):zQ a one++[one]=CQ a one:=by unfold zQ CQ;rw[b,IX b];simp
theorem TT(a:List (Kd×Value))(one:Kd×Value):(zQ a one).length<=a.length+1:=by
 have h:∀(l:List (Kd×Value)),(l.filter (fun z=>less z.1.sum one.1.sum)).length+(l.filter (fun z=> !(less z.1.sum one.1.sum))).length=l.length:=by
  intro l;induction l with
  |nil=>rfl
  |cons y l ih=>cases hl:less y.1.sum one.1.sum<;>simp[hl]<;>omega
 have:=h a;unfold zQ;rw[List.length_append,List.length_append];split<;>simp<;>omega
theorem Mu{a:List Kd}(h:Av a s):∃(i:Nat) (k:Kd),CU a s=(i:Int)/\a[i]?=some k/\k.sum=s:=by
 rcases Fc a s with⟨_,d⟩|⟨i,k,e,b,c⟩
 .exact absurd h d
 .exact⟨i,k,e,b,c⟩
theorem IK{a:List Kd}(h:¬Av a s):CU a s<0:=by
 rcases Fc a s with⟨e,_⟩|⟨i,k,e,b,c⟩
 .omega
 .exact absurd ⟨k,Zs b,c⟩ h
end Go.Proofs.YtcankpdbabaacaaGreatDoor
