import Derived.Test.YtoglnpagihdhpaaGreatDoorX34
set_option maxRecDepth 100000
set_option maxHeartbeats 16000000
namespace Go.Proofs.YtoglnpagihdhpaaGreatDoor
open ChangeShapes WideShapes ChangeAt RowKit _root_.Go.Proofs.Tryz
structure FpJ (q:Nat) (W:Zh) (wd:Int) (xs:Zl) (i:Nat) (wr:Zh):Prop where
 ex:∃(r:Rs) (ta pa la':Zk) (tc pc lc':Nat),BS wd r0 (xs.take i) r/\Aa wr q [Zg wd,Zg r.E,Zg r.F,Zg r.C,.slice ta r.A.length tc,.slice pa r.ps.length pc,.slice la' r.ls.length lc']/\RdS (q+1) wr ta pa la' r.A r.ps r.ls
 le:i<=xs.length
 be:Below q W wr
 lt:q<wr.heap.size
theorem Oi(a:Zk)(n c:Nat)(w:Zh)(hn:n<=maxLen)(hb:QM w a n)(hc:n<=c)(hE:Env w):
 Calls prog 3 #[.slice a n c] w fun e w'=>e=.returned (.bool true)/\Zz w w':=by
 by_cases h20:(1048576:Int)<n
 .clear hb hc hn;go_enter func3,ntmps3;go_wp2;go_ret;exact⟨rfl,Below.refl _ _⟩
 have HD:Hid _:=MS a n c w hn hb hc;have yF:Hid (Env w):=hE;clear hb hc hn hE;go_enter func3,ntmps3;go_wp2_with fail;refine Calls.mono HD.o ?_;clear HD;rintro e w1 ⟨d,la,lc,m,rfl,yR,⟨vV,yS⟩,F⟩;have HF:Hid (∀X,Zz w1 X->Ad X X.heap.size la m/\Env X/\Zz w X):=fun X g=>⟨yR.N g,(yF.o.below F).below g,F.trans (g.mono F.size)⟩;have xH:Hid (∀s∈m,s.size<=6000):=yS
 have HR:Hid _:=Qz d la lc m w1 yR (by omega) (fun s hs=>by have:=yS s hs;omega) (yF.o.below F);clear yR F yS yF;go_wp2_with fail;refine Calls.mono HR.o ?_;clear HR;rintro e w2 ⟨x,T,P,L,rs,vD,rfl,zP,yP⟩;obtain⟨t1,S,rfl⟩:=As zP.ak;obtain⟨p1,d1,rfl⟩:=As zP.pins;obtain⟨l1,e1,rfl⟩:=As zP.aq
 obtain⟨W2,yL⟩:∃W,W=w2.alloc (.cells #[.int .i64 x.code,.int .i64 x.wd,.int .i64 x.E,.int .i64 x.F,.int .i64 x.C,.slice t1 x.A.length S,.slice p1 x.ps.length d1,.slice l1 x.ls.length e1,.string x.y,.int .i64 x.le,.string x.a,.string x.b] 32):=⟨_,rfl⟩
 obtain⟨yH,vM,xJ⟩:=AB (l:=[.int .i64 x.code,.int .i64 x.wd,.int .i64 x.E,.int .i64 x.F,.int .i64 x.C,.slice t1 x.A.length S,.slice p1 x.ps.length d1,.slice l1 x.ls.length e1,.string x.y,.int .i64 x.le,.string x.a,.string x.b]) yL;have I:Below w1.heap.size w1 W2:=yP.trans (yH.mono yP.size);have HS:Hid _:=Io d la lc m W2 (HF.o W2 I).1 (by omega) (fun s hs=>by have:=xH.o s hs;omega)
 have zO:Hid (∀X,Zz W2 X->Aa X w2.heap.size [.int .i64 x.code,.int .i64 x.wd,.int .i64 x.E,.int .i64 x.F,.int .i64 x.C,.slice t1 x.A.length S,.slice p1 x.ps.length d1,.slice l1 x.ls.length e1,.string x.y,.int .i64 x.le,.string x.a,.string x.b]/\Bt X X.heap.size t1 p1 l1 x.A x.ps x.ls/\Zz w1 X):=fun X g=>⟨Aa.below xJ g,((zP.below yH).below g).get,I.trans (g.mono I.size)⟩;have zB:Hid (FT d m x):=vD
 have xE:Hid _:=yL;clear vD yL yH vM xJ yP zP I;go_upto_region 5 with fail;rw[<-xE.o];clear xE;generalize w2.heap.size=q5 at *
 go_wp2_with fail;refine Calls.mono HS.o ?_;clear HS;rintro e w3 ⟨y,T,P,L,vL,zT,rfl,zR,zF⟩;obtain rfl:x=y:=zB.o.de zT;obtain⟨t2,c2,rfl⟩:=As zR.ak;obtain⟨p2,d2,rfl⟩:=As zR.pins;obtain⟨l2,e2,rfl⟩:=As zR.aq
 obtain⟨G,yM⟩:∃W,W=w3.alloc (.cells #[.int .i64 x.code,.int .i64 x.wd,.int .i64 x.E,.int .i64 x.F,.int .i64 x.C,.slice t2 x.A.length c2,.slice p2 x.ps.length d2,.slice l2 x.ls.length e2,.string x.y,.int .i64 x.le,.string x.a,.string x.b] 32):=⟨_,rfl⟩
 obtain⟨yI,vN,xK⟩:=AB (l:=[.int .i64 x.code,.int .i64 x.wd,.int .i64 x.E,.int .i64 x.F,.int .i64 x.C,.slice t2 x.A.length c2,.slice p2 x.ps.length d2,.slice l2 x.ls.length e2,.string x.y,.int .i64 x.le,.string x.a,.string x.b]) yM;have yK:Below W2.heap.size W2 G:=zF.trans (yI.mono zF.size)
 have B:Hid (∀X,Zz G X->Aa X w3.heap.size [.int .i64 x.code,.int .i64 x.wd,.int .i64 x.E,.int .i64 x.F,.int .i64 x.C,.slice t2 x.A.length c2,.slice p2 x.ps.length d2,.slice l2 x.ls.length e2,.string x.y,.int .i64 x.le,.string x.a,.string x.b]/\Bt X X.heap.size t2 p2 l2 x.A x.ps x.ls/\Aa X q5 [.int .i64 x.code,.int .i64 x.wd,.int .i64 x.E,.int .i64 x.F,.int .i64 x.C,.slice t1 x.A.length S,.slice p1 x.ps.length d1,.slice l1 x.ls.length e1,.string x.y,.int .i64 x.le,.string x.a,.string x.b]/\Bt X X.heap.size t1 p1 l1 x.A x.ps x.ls/\Zz w1 X):=fun X g=>by
  have h1:=zO.o X (yK.trans (g.mono yK.size));exact⟨Aa.below xK g,((zR.below yI).below g).get,h1.1,h1.2.1,h1.2.2⟩
 have zG:=zB.o.small;have zX:Hid (∀k∈x.A,k.B.length<=30):=zG.2;have vR:=zG.1.1;have vS:=zG.1.2.1;have vT:=zG.1.2.2;have xF:Hid _:=yM;clear yM yI vN xK zF zR yK zT zG zO;go_upto_region 6 with fail;rw[<-xF.o];clear xF;generalize w3.heap.size=q6 at *
 have zN:Hid _:=LR x.wd x.E x.F x.C x.wd x.E x.F x.C t1 p1 l1 t2 p2 l2 S d1 e1 c2 d2 e2 x.A x.A x.ps x.ps x.ls x.ls G (B.o G (Below.refl _ _)).2.2.2.1 (B.o G (Below.refl _ _)).2.1 ⟨by omega,by omega,by omega⟩ ⟨by omega,by omega,by omega⟩ (fun k hk=>by have:=zX.o k hk;omega) (fun k hk=>by have:=zX.o k hk;omega);obtain⟨b0,b1,b2,b3,b4,b5,b6⟩:=Aa.c7 (B.o G (Below.refl _ _)).1 1 2 3 4 5 6 7
 obtain⟨a0,a1,a2,a3,a4,a5,a6⟩:=Aa.c7 (B.o G (Below.refl _ _)).2.2.1 1 2 3 4 5 6 7;obtain⟨u0,u9⟩:=Aa.c2 (B.o G (Below.refl _ _)).1 0 9;obtain⟨v0,v9⟩:=Aa.c2 (B.o G (Below.refl _ _)).2.2.1 0 9;go_wp2_with fail;refine Calls.mono zN.o ?_;clear zN a0 a1 a2 a3 a4 a5 a6 b0 b1 b2 b3 b4 b5 b6 u0 u9 v0 v9;rintro e w4 ⟨bw,rfl,xX,xU⟩;obtain rfl:bw=true:=xX.2 (by simp);have zJ:Hid (Zz G w4):=xU;clear xU xX
 obtain⟨u0,_⟩:=(B.o w4 zJ.o).1 0 _ rfl;by_cases Q:x.code=1
 .have f1:(x.code==1)=true:=by simp[Q]
  have HE:Hid (Zz w w4):=(HF.o w4 (B.o w4 zJ.o).2.2.2.2).2.2;clear Q;go_wp2;go_ret;exact⟨rfl,HE.o⟩
 have f1:(x.code==1)=false:=by simp[Q]
 have yB:=zB.o.wdOk Q;have yE:Hid (x.code≠1):=Q;clear Q;obtain⟨W4,yN⟩:∃W,W=w4.alloc (.cells #[.int .i64 d,.int .i64 0,.int .i64 0,.int .i64 0,.slice none 0 0,.slice none 0 0,.slice none 0 0] 30):=⟨_,rfl⟩;obtain⟨xI,vO,xL⟩:=AB (l:=[.int .i64 d,.int .i64 0,.int .i64 0,.int .i64 0,.slice none 0 0,.slice none 0 0,.slice none 0 0]) yN
 have zC:Hid (∀X,Below w4.heap.size W4 X->Aa X q5 [.int .i64 x.code,.int .i64 x.wd,.int .i64 x.E,.int .i64 x.F,.int .i64 x.C,.slice t1 x.A.length S,.slice p1 x.ps.length d1,.slice l1 x.ls.length e1,.string x.y,.int .i64 x.le,.string x.a,.string x.b]/\Bt X X.heap.size t1 p1 l1 x.A x.ps x.ls/\Ad X X.heap.size la m/\Env X/\Zz w X):=fun X g=>by have h1:=B.o X (zJ.o.trans ((xI.trans g).mono zJ.o.size));have A:=HF.o X h1.2.2.2.2;exact⟨h1.2.2.1,h1.2.2.2.1,A.1,A.2.1,A.2.2⟩
 have yX:Hid (FpJ w4.heap.size W4 d m 0 W4):=⟨⟨r0,none,none,none,0,0,0,rfl,xL,fun V Y _ _=>⟨.inl rfl,.inl rfl,.inl rfl⟩⟩,Nat.zero_le _,Below.refl _ _,by omega⟩;have xG:Hid _:=yN;clear yN xI vO xL B HF zJ;go_upto_region 11 with fail;rw[<-xG.o];clear xG u0;generalize w4.heap.size=q at *
 go_wp2
 go_loopw [8] (fun iv wr=>∃i:Nat,iv=.int .i64 i/\i<=m.length/\Hid (FpJ q W4 d m i wr)) (fun iv _=>m.length -(intOf iv).toNat)
 case atStart=>exact⟨0,rfl,Nat.zero_le _,yX⟩
 case round=>
  clear yX;obtain⟨i,rfl,hi,HJ⟩:=hrel;obtain⟨r,ta,pa,yC,tc,pc,yT,zS,zA,vA⟩:=HJ.o.ex;have t:Hid (BS d r0 (m.take i) r):=zS
  have D:Hid (∀X,Zz wr X->Aa X q [.int .i64 d,.int .i64 r.E,.int .i64 r.F,.int .i64 r.C,.slice ta r.A.length tc,.slice pa r.ps.length pc,.slice yC r.ls.length yT]/\Bt X X.heap.size ta pa yC r.A r.ps r.ls/\Below q W4 X/\q<X.heap.size):=fun X g=>⟨zA.below g,vA [] X (by simp) (Tn.of g),HJ.o.be.trans (g.mono (Nat.le_of_lt HJ.o.lt)),Zr HJ.o.lt g.size⟩;clear zS zA vA HJ;by_cases hil:i<m.length
  .obtain⟨hA,vG,xP,xO,vF⟩:=zC.o wr (D.o wr (Below.refl _ _)).2.2.1;obtain⟨db,xN,vH,_,xZ⟩:=xP.at hil;subst vH;have zW:Hid (m[i]?=some m[i]):=Zv hil;have c0:=xZ i _ zW.o;have vU:=xH.o m[i] (List.getElem_mem hil);generalize m[i]=s at *
   have xA:Hid _:=LX s d wr (by omega) xO;clear hA vG xP xO vF xZ;go_wp2_with fail;refine Calls.mono xA.o ?_;clear xA;rintro e X1 ⟨v,rfl,yQ,F⟩;have zG:=Un s d;have zY:Hid ((Av s d).ok=true->Bw (Av s d).k (Av s d).sum (Av s d).name (Av s d).n (Av s d).t (Av s d).ss d=true/\Ch (Av s d).k (Av s d).sum (Av s d).name (Av s d).n (Av s d).t (Av s d).ss d=s):=DQ
   have yY:Hid ((Av s d).ok=false->Av s d=FJ):=Um;have yG:Hid (∀f,(Av s d).ok=true->CN d r.E r.F r.C r.A r.ps r.ls (Av s d).k (Av s d).sum (Av s d).name (Av s d).n (Av s d).t (Av s d).ss f->BS d r0 (m.take (i+1)) f):=fun f h1 A=>by have o:=BS.snoc (r2:=f) (show Kb d r s f from⟨h1,A⟩) t.o;rw[List.take_add_one,zW.o];exact o
   have yD:Hid (∀(_:(Av s d).ok=false\/∃c a b,Fh d r.E r.F r.C r.A r.ps r.ls (Av s d).k (Av s d).sum (Av s d).name (Av s d).n (Av s d).t (Av s d).ss c a b),x.code=7/\x.le=(i:Int)+1):=fun h=>zB.o.bad yE.o t.o zW.o h;generalize Av s d=E at *
   obtain⟨va,vc,rfl⟩:=As yQ;have vC:Ad X1 X1.heap.size va E.ss:=by obtain⟨_,_,er,h⟩:=(Aj.own yQ).row;cases er;exact h
   obtain⟨z,yO⟩:∃X,X=X1.alloc (.cells #[.int .i64 E.k,.string E.sum,.string E.name,.int .i64 E.n,.string E.t,.slice va E.ss.length vc] 38):=⟨_,rfl⟩;obtain⟨yJ,vP,xM⟩:=AB (l:=[.int .i64 E.k,.string E.sum,.string E.name,.int .i64 E.n,.string E.t,.slice va E.ss.length vc]) yO;have I:Below wr.heap.size wr z:=F.trans (yJ.mono F.size)
   have M:Hid (∀X,Zz z X->Aa X X1.heap.size [.int .i64 E.k,.string E.sum,.string E.name,.int .i64 E.n,.string E.t,.slice va E.ss.length vc]/\Ad X X.heap.size va E.ss/\Zz wr X):=fun X g=>⟨Aa.below xM g,(vC.N yJ).N g,I.trans (g.mono I.size)⟩;have K:=t.o.gz yB.1 yB.2;have yZ:Hid (CF d r.E r.F r.C r.A r.ps r.ls):=t.o.valid yB.1 yB.2;have hm:(100000:Nat)<=maxLen:=by unfold maxLen;omega
   have A:=M.o z (Below.refl _ _);have o:=D.o z A.2.2;have h4:=zC.o z o.2.2.1;have yW:Hid _:=Sy d r.E r.F r.C ta pa yC tc pc yT r.A r.ps r.ls E.k E.sum E.name E.n E.t E.ss va vc z o.2.1 K.k K.p K.l ⟨by have:=K.n;omega,fun k hk=>by have:=yZ.o.bn.B k hk;omega,by have:=K.n;omega,by have:=K.n;omega⟩ K.b h4.2.2.2.1.io A.2.1 (by omega) (by omega) (by omega)
   obtain⟨y0,y1,y2,y3,y4,y5,y6⟩:=Aa.c7 o.1 0 1 2 3 4 5 6;obtain⟨z0,z1,z2,z3,z4,z5⟩:=Aa.c6 A.1 0 1 2 3 4 5;have zO:Hid _:=yO;clear yO yJ vP xM I yQ vC F c0 A o h4 K hm;go_upto_region 15 with fail;rw[<-zO.o];clear zO;generalize X1.heap.size=qe at *
   go_wp2_with fail;refine Calls.mono yW.o ?_;clear yW y0 y1 y2 y3 y4 y5 y6 z0 z1 z2 z3 z4 z5;rintro e X3 ⟨zF,xY⟩
   have yV:(∃(U:Int) (aa ab:Zi),(E.ok=true->U≠0)/\(x.code=7/\x.le=(i:Int)+1)/\e=.returned (.agg #[.int .i64 U,.int .i64 0,.int .i64 0,.int .i64 0,.int .i64 0,.slice none 0 0,.slice none 0 0,.slice none 0 0,.string ⟨#[]⟩,.int .i64 0,.string aa,.string ab]))\/(E.ok=true/\∃f T P L rs,CN d r.E r.F r.C r.A r.ps r.ls E.k E.sum E.name E.n E.t E.ss f/\e=.returned (.agg #[.int .i64 0,.int .i64 d,.int .i64 f.E,.int .i64 f.F,.int .i64 f.C,T,P,L,.string f.y,.int .i64 f.le,.string ⟨#[]⟩,.string ⟨#[]⟩])/\AY X3 z.heap.size T P L rs f.A f.ps f.ls):=by
    rcases xY with⟨vI,rfl⟩|⟨⟨_,J⟩,⟨U,aa,ab,xT,rfl⟩|⟨f,T,P,L,rs,zZ,rfl,hS⟩⟩
    .have hf:E.ok=false:=by
      cases h:E.ok with
      |false=>rfl
      |true=>exact absurd ⟨yZ.o,(zY.o h).1⟩ vI
     exact .inl ⟨1,⟨#[]⟩,⟨#[]⟩,(fun h=>by rw[hf]at h;cases h),yD.o (.inl hf),by rw[Kc]⟩
    .exact .inl ⟨U,aa,ab,fun _=>(by have:=xT.code;omega),yD.o (.inr ⟨U,aa,ab,xT⟩),by rw[Kc]⟩
    .refine .inr ⟨?_,f,T,P,L,rs,zZ,rfl,hS⟩;cases h:E.ok with
     |true=>rfl
     |false=>rw[yY.o h]at J;simp[FJ,Bw]at J
   have zI:Hid (Zz z X3):=zF;clear xY zF yD yY;rcases yV with⟨U,aa,ab,yA,zH,rfl⟩|⟨J,f,T,P,L,vL,zZ,rfl,hS⟩
   .obtain⟨j,O⟩:∃X,X=X3.alloc (.cells #[.int .i64 U,.int .i64 0,.int .i64 0,.int .i64 0,.int .i64 0,.slice none 0 0,.slice none 0 0,.slice none 0 0,.string ⟨#[]⟩,.int .i64 0,.string aa,.string ab] 32):=⟨_,rfl⟩;obtain⟨N,yU,zE⟩:=AB (l:=[.int .i64 U,.int .i64 0,.int .i64 0,.int .i64 0,.int .i64 0,.slice none 0 0,.slice none 0 0,.slice none 0 0,.string ⟨#[]⟩,.int .i64 0,.string aa,.string ab]) O
    obtain⟨k0,_⟩:=zE 0 _ rfl;have o:=zC.o j (D.o j (M.o j (zI.o.trans (N.mono zI.o.size))).2.2).2.2.1;obtain⟨v0,v9⟩:=Aa.c2 o.1 0 9;have zK:Hid (Zz w j):=o.2.2.2.2;have e7:(x.code==7)=true:=by simp[zH.1]
    have e8:(x.le==(i:Int)+1)=true:=by simp[zH.2]
    have C:Hid _:=O;clear O N yU zE o zH zY yG;go_upto_region 16 with fail;rw[<-C.o];clear C;generalize X3.heap.size=qc at *
    cases J:E.ok with
    |true=>
     have vQ:(U==0)=false:=by simpa using yA J
     have Q:(U !=0)=true:=by simpa using yA J
     clear yA;go_wp2;go_ret;exact⟨by first|rfl|rw[e8],zK.o⟩
    |false=>clear yA;go_wp2;go_ret;exact⟨by first|rfl|rw[e8],zK.o⟩
   .obtain⟨t3,c3,rfl⟩:=As hS.ak;obtain⟨p3,d3,rfl⟩:=As hS.pins;obtain⟨l3,e3,rfl⟩:=As hS.aq;obtain⟨j,O⟩:∃X,X=X3.alloc (.cells #[.int .i64 0,.int .i64 d,.int .i64 f.E,.int .i64 f.F,.int .i64 f.C,.slice t3 f.A.length c3,.slice p3 f.ps.length d3,.slice l3 f.ls.length e3,.string f.y,.int .i64 f.le,.string ⟨#[]⟩,.string ⟨#[]⟩] 32):=⟨_,rfl⟩
    obtain⟨N,yU,zE⟩:=AB (l:=[.int .i64 0,.int .i64 d,.int .i64 f.E,.int .i64 f.F,.int .i64 f.C,.slice t3 f.A.length c3,.slice p3 f.ps.length d3,.slice l3 f.ls.length e3,.string f.y,.int .i64 f.le,.string ⟨#[]⟩,.string ⟨#[]⟩]) O;have u:=zI.o.trans (N.mono zI.o.size)
    have HY:Hid (∀X,Zz j X->Aa X X3.heap.size [.int .i64 0,.int .i64 d,.int .i64 f.E,.int .i64 f.F,.int .i64 f.C,.slice t3 f.A.length c3,.slice p3 f.ps.length d3,.slice l3 f.ls.length e3,.string f.y,.int .i64 f.le,.string ⟨#[]⟩,.string ⟨#[]⟩]/\Zz z X/\∀V,Tn V X3 X):=fun X g=>⟨Aa.below zE g,u.trans (g.mono u.size),fun _=>Tn.of (N.trans (g.mono N.size))⟩;have xC:Hid _:=hS.jr
    have xB:Hid (BS d r0 (m.take (i+1)) f):=yG.o f J zZ;have hm:(100000:Nat)<=maxLen:=by unfold maxLen;omega
    have h5:=M.o j u;have H:=D.o j h5.2.2;have h7:=zC.o j H.2.2.1;have zM:Hid _:=ZH E.k E.sum E.name E.n E.t va vc E.ss d j.drew h7.2.2.2.1.io h5.2.1 (by omega) (by omega) (by omega);simp only[Ej]at zM;rw[(zY.o J).2]at zM;have zV:Hid (∀X,Zz j X->X.cell? ⟨db,xN+i,none⟩=some (.string s)):=fun X g=>by have h8:=zC.o X (D.o X (M.o X (u.trans (g.mono u.size))).2.2).2.2.1;have h9:=h8.2.2.1.ay ⟨db,xN,none⟩ rfl i s zW.o;rwa[Go.WideShapes.add_plain]at h9
    have vJ:q<z.heap.size:=(D.o z (M.o z (Below.refl _ _)).2.2).2.2.2;obtain⟨k0,_⟩:=zE 0 _ rfl;have C:Hid _:=O;clear O N yU zE hS u H h7 hm zY yG zZ;go_upto_region 16 with fail;rw[<-C.o];clear C;generalize X3.heap.size=qc at *
    go_upto_region 18 with fail;clear k0;obtain⟨z0,z1,z2,z3,z4,z5⟩:=Aa.c6 h5.1 0 1 2 3 4 5;have c0:=zV.o j.drew (Below.refl _ _).drew;have S:=zV.o j (Below.refl _ _);have vK:(s.toList !=s.toList)=false:=by simp
    clear h5;go_cut [93] (fun v wx=>v=.bool false/\Hid (Zz j wx))
    case first=>
     go_region_with (first
      |(go_at_call 10;refine Calls.mono zM.o ?_;rintro e2 R ⟨rfl,xV⟩;have B5:Below j.heap.size j R:=(Below.refl _ _).drew.trans xV;have c5:=zV.o R B5))
     all_goals
      have zU:Hid (Zz j R):=B5;clear zM z0 z1 z2 z3 z4 z5 c0 S xV B5;go_wp2_with fail;go_meet;exact⟨by first|rfl|simp,zU⟩
    case rest=>
     clear zM z0 z1 z2 z3 z4 z5 c0 S vK;revert wc;rintro R ⟨rfl,zU⟩;obtain⟨xQ,xR,xS⟩:=HY.o R zU.o;have H:=D.o R (M.o R xR).2.2;obtain⟨Z,hZ⟩:∃Z,Z=R.setCells q 0 (#[.int .i64 d,.int .i64 f.E,.int .i64 f.F,.int .i64 f.C,.slice t3 f.A.length c3,.slice p3 f.ps.length d3,.slice l3 f.ls.length e3]:Array Value).toList:=⟨_,rfl⟩;have tZ:Tn [q] R Z:=by rw[hZ];exact AI _ _ _ _
     have vE:Hid (FpJ q W4 d m (i+1) Z):=⟨⟨f,t3,p3,l3,c3,d3,e3,xB.o,by rw[hZ];exact H.1.au _ rfl,fun V Y hV hY=>xC.o (q::V) Y (fun b hb=>by rcases List.mem_cons.1 hb with rfl|hb;exact vJ;have:=hV b hb;omega) (((xS _).trans (tZ.mono (by simp))).trans (hY.mono (fun b hb=>List.mem_cons_of_mem _ hb)))⟩,by omega,H.2.2.1.trans (tZ.below (Nat.le_of_lt H.2.2.2) (by simp)),Zr H.2.2.2 tZ.size⟩
     obtain⟨s0,s1,s2,s3,s4,s5,s6⟩:=Aa.c7 xQ 1 2 3 4 5 6 7;have xD:Hid (R.there q 0 7):=H.1.there;have HZ:Hid _:=hZ;clear hZ tZ H xQ xR xS HY xC xB zV zU D M zI;go_upto_region 20 with fail
     go_upto_region 13 with(refine wpList_store_mid rfl 30 _ _ rfl q 0 #[.int .i64 d,.int .i64 f.E,.int .i64 f.F,.int .i64 f.C,.slice t3 f.A.length c3,.slice p3 f.ps.length d3,.slice l3 f.ls.length e3] rfl rfl xD.o (by kernel_rfl) (by simp[Value.oneCell']) ?_);rw[<-HZ.o];clear HZ xD s0 s1 s2 s3 s4 s5 s6;go_wp2;exact⟨⟨i+1,by go_num,by omega,vE⟩,by simp[intOf];omega⟩
  .obtain rfl:i=m.length:=by omega
   have hx:=zB.o.good yE.o (r:=r) (by have:=t.o;rwa[List.take_length]at this);have g0:=congrArg An.code hx;have gw:=congrArg An.wd hx;have gn:=congrArg An.E hx;have gg:=congrArg An.F hx;have gb:=congrArg An.C hx;have gk:=congrArg An.A hx;have gp:=congrArg An.ps hx;have gl:=congrArg An.ls hx;simp only at g0 gw gn gg gb gk gp gl
   have HG:Hid ((d=x.wd/\r.E=x.E/\r.F=x.F/\r.C=x.C)/\r.A=x.A/\r.ps=x.ps/\r.ls=x.ls):=⟨⟨gw.symm,gn.symm,gg.symm,gb.symm⟩,gk.symm,gp.symm,gl.symm⟩;have f0:(x.code==0)=true:=by rw[g0];rfl
   have A:=D.o wr (Below.refl _ _);have o:=zC.o wr A.2.2.1;have zN:Hid _:=LR d r.E r.F r.C x.wd x.E x.F x.C ta pa yC t1 p1 l1 tc pc yT S d1 e1 r.A x.A r.ps x.ps r.ls x.ls wr A.2.1 o.2.1 ⟨by rw[<-gk];omega,by rw[<-gp];omega,by rw[<-gl];omega⟩ ⟨by omega,by omega,by omega⟩ (fun k hk=>by have:=zX.o k (gk▸hk);omega) (fun k hk=>by have:=zX.o k hk;omega)
   obtain⟨y0,y1,y2,y3,y4,y5,y6⟩:=Aa.c7 A.1 0 1 2 3 4 5 6;obtain⟨a0,a1,a2,a3,a4,a5,a6⟩:=Aa.c7 o.1 1 2 3 4 5 6 7;obtain⟨v0,_⟩:=o.1 0 _ rfl;have zK:Hid (Zz w wr):=o.2.2.2.2;clear hx g0 gw gn gg gb gk gp gl A o t zB yE;go_wp2_with fail;refine Calls.mono zN.o ?_;clear zN y0 y1 y2 y3 y4 y5 y6 a0 a1 a2 a3 a4 a5 a6 v0;rintro e X6 ⟨b6,rfl,H,xW⟩;obtain rfl:b6=true:=H.2 HG.o
   have HE:Hid (Zz w X6):=zK.o.trans (xW.mono zK.o.size);clear H xW;go_wp2;go_ret;exact⟨rfl,HE.o⟩
end Go.Proofs.YtoglnpagihdhpaaGreatDoor
