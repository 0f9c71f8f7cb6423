import Derived.Test.YtcfjcdpkpiidkaaGreatX23
import Derived.Deep.CutBlock
set_option maxRecDepth 100000
set_option maxHeartbeats 16000000
namespace Go.Proofs.YtcfjcdpkpiidkaaGreat
open ChangeShapes WideShapes ChangeAt RowKit _root_.Go.Proofs.Tryz
variable{w X Y:Zh}{b n c q g cap size:Nat}{a:Zk}{p i now e d:Int}{T P L:Value}{j:List Pd}{f:List Ld}{l:Zj}
structure Jd (w:Zh) (b:Nat) (a:Zk) (n c:Nat) (p:Int) (q:Nat) (wd now given births:Int) (T P L:Value) (zs:List (Kd×Value)) (ps:List Pd) (ls:List Ld) (X:Zh):Prop where
 box:Aa X q [Zg wd,Zg now,Zg given,Zg births,T,P,L]
 R:BN X (w.heap.size+2) q T P L zs ps ls
 z:Aa X (w.heap.size+1) z7
 rd:AA X b a n c p
 gr:w.grownBy X (some b)
 q:w.heap.size+2<=q
theorem Jd.go{k:Int}{l:List (Kd×Value)}{g:List Ld}(h:Jd w b a n c p q k now e d T P L l j g X)(f:X.grownBy Y (some b))(o:AA Y b a n c i)(r:b<w.heap.size):Jd w b a n c i q k now e d T P L l j g Y:=by have m:=h.q;exact⟨h.box.au f Yv,h.R.J (Tn.grown (V:=[b]) f Yu) Yt,h.z.au f Yv,o,Ap h.gr f,m⟩
theorem Jd.I{o:Int}{i:List (Kd×Value)}{g:List Pd}(h:Jd w b a n c p q o now e d T P L i g f X)(r:b<w.heap.size)(j:Nat)(s:j<4)(x:Int):DD w b a n c p 0 q (X.setCell (Zd q j) (Zg x)):=by
 have t:=h.q;have m:=AS X q j (Zg x);refine⟨?_,Aa.same h.z (m.block _ h.z.lt Yt),⟨p,h.rd.J m Yt Yt,Yv,Yv⟩,CK h.gr m Yt⟩;have k:=h.box.set j (Zg x);have l:=h.R.J m Yu;rcases(show j=0\/j=1\/j=2\/j=3 by omega)with rfl|rfl|rfl|rfl
 .exact⟨x,now,e,d,T,P,L,i,g,f,k,l⟩
 .exact⟨o,x,e,d,T,P,L,i,g,f,k,l⟩
 .exact⟨o,now,x,d,T,P,L,i,g,f,k,l⟩
 .exact⟨o,now,e,x,T,P,L,i,g,f,k,l⟩
theorem DD.more{K:Int}(h:DD w b a n c p K q X)(l:d<=p)(m:p+K<=d+e):DD w b a n c d e q X:=by obtain⟨i,j,⟨k,g,o,r⟩,f⟩:=h;exact⟨i,j,⟨k,g,Yv,Yv⟩,f⟩
theorem PG{j:Nat}(h:Aa X q l)(d:∀i,i<l.length->∃s:Zi,s.size<=3/\l[i]?=some (.string s))(c:j<l.length):∃s:Zi,s.size<=3/\X.cell? (Zd q j)=some (.string s):=by obtain⟨s,a,b⟩:=d j c;exact⟨s,a,(h j _ b).1⟩
theorem Vv(s:Zi)(a:Int)(w:Zh)(f:s.size<=100000):Calls prog 33 #[.string s,Zg a] w fun e b=>∃t,e=.returned (.string t)/\t.size<=maxLen/\Zz w b:=by
 have d:(100000:Nat)<=maxLen:=Yo
 by_cases h:1<=a/\a<=8
 .refine(EY s a w Yv h.1 h.2).mono ?_;rintro e b ⟨rfl,c⟩;exact⟨_,rfl,by rw[IT];omega,c⟩
 .refine(Pj s a w Yv).mono ?_;rintro e b ⟨rfl,rfl⟩;exact⟨_,rfl,Yq,Ad⟩
theorem Hp{j:Nat}(h:Aa X q l)(b:∀u∈l,∃x,u=Zg x)(a:j<l.length):∃x,X.cell? (Zd q j)=some (Zg x):=by obtain⟨x,c⟩:=b _ (List.getElem_mem a);exact⟨x,(h j _ (Zv a)).1.trans (by rw[c])⟩
theorem Je{a:Nat}{e:TypeId}{d:Zj}(h:w.ownsRow a e size (Yz g n cap) n d)(j:Nat):w.frozen? ⟨g,j,none⟩=false:=by
 rcases h.2 with⟨e,_⟩|⟨i,b,f,e,_,c,_⟩
 .cases e
 .cases e;simp[World.frozen?,c]
theorem Oi{a:Nat}{e:TypeId}{c:Zj}(h:w.ownsRow a e size (Yz g n cap) n c)(j:Nat)(b:j<n *size):∃u,w.cell? (Zd g j)=some u:=by rw[h.cellAt j b];exact⟨_,Zv (by rw[h.1];exact b)⟩
theorem Jd.rows{r:Int}{s k:List (Kd×Value)}{o:List Pd}{m i:List Ld}(h:Jd w b a n c p q r now e d T P L s o m X)(u:b<w.heap.size)(f:Tn [g] X Y)(v:w.heap.size+2<=g)(t:g≠q)(l:BN Y (w.heap.size+2) q T P L k j i):DD w b a n c p 0 q Y:=
 ⟨⟨_,_,_,_,_,_,_,_,_,_,Aa.same h.box (f.block _ h.box.lt Yt),l⟩,Aa.same h.z (f.block _ h.z.lt Yt),⟨p,h.rd.J f Yt Yt,Yv,Yv⟩,CK h.gr f Yt⟩
theorem Jd.same{j:List (Kd×Value)}{g:List Pd}(h:Jd w b a n c p q i now e d T P L j g f X):DD w b a n c p 0 q X:=
 ⟨⟨_,_,_,_,_,_,_,_,_,_,h.box,h.R⟩,h.z,⟨p,h.rd,Yv,Yv⟩,h.gr⟩
theorem SB(b:Nat)(a:Zk)(n c:Nat)(p:Int)(sw now E H:Int)(ka pa la:Zk)(kc pc lc:Nat)(F:List Kd)(R:List Pd)(U:List Ld)(w:Zh)(h:AA w b a n c p)(hp:0<=p)(tJ:p<=750000)(yA:AW w w.heap.size ka pa la F R U)(yN:∀A,ka=some A->KJ w A F)(vT:pa=none->pc=0)(vP:la=none->lc=0)(xM:Gm F R U)(xD:∀k∈F,Hj k):
 Calls prog 30 #[.pointer (some ⟨b,0,none⟩),.agg (Yg sw now E H ka F.length kc pa R.length pc la U.length lc)] w (SA w b a n c p 40):=by
 have zB:=h.lt;obtain⟨W,hW⟩:=Af ((w.alloc (.cells (Yg sw now E H ka F.length kc pa R.length pc la U.length lc) 27)).alloc (.cells Yi 27));obtain⟨bW,zW,cW,c7⟩:=Bf (l:=(Yh sw now E H ka F.length kc pa R.length pc la U.length lc)) (k:=z7) hW;obtain⟨s0,s1,s2,s3,s4,s5,s6⟩:=Aa.c7 cW 0 1 2 3 4 5 6;have hn:=xM.n
 have xT:Hid _:=GI sw now E H ka pa la kc pc lc F R U W (yA.L bW) (fun A Z=>by have hk:=yN A Z;have G:=yA.k;rw[Z]at G;exact hk.ah G bW) vT vP hn.1 hn.2.1 hn.2.2 (fun k hk=>(xD k hk).2.1);have H0:Hid (Aa W w.heap.size (Yh sw now E H ka F.length kc pa R.length pc la U.length lc)/\Aa W (w.heap.size+1) z7/\AA W b a n c p/\w.grownBy W (some b)/\W.heap.size=w.heap.size+2):=⟨cW,c7,h.below bW,Ak _ bW,zW⟩
 have xE:Hid (Og F R U/\∀k∈F,Hj k):=⟨xM.w xD,xD⟩;have HW:Hid _:=hW;clear hW bW zW cW c7 yA yN xM xD h;go_enter func30,ntmps30;go_upto_region 1 with fail;rw[<-HW.o];clear HW;go_wp2_with fail;refine xT.Am ?_;rintro e w1 ⟨T,P,L,rs,rfl,hS,hf,xB⟩;obtain⟨g,tn,tc,rfl⟩:=hf T (by simp);obtain⟨S,pn,zI,rfl⟩:=hf P (by simp);obtain⟨gl,ln,zH,rfl⟩:=hf L (by simp)
 obtain⟨X0,xA⟩:=Af (w1.alloc (.cells (Yg sw now E H (some ⟨g,0,none⟩) tn tc (some ⟨S,0,none⟩) pn zI (some ⟨gl,0,none⟩) ln zH) 27));have bX:=(AL (l:=(Yh sw now E H (some ⟨g,0,none⟩) tn tc (some ⟨S,0,none⟩) pn zI (some ⟨gl,0,none⟩) ln zH)) xA).1;have cX:=(AL (l:=(Yh sw now E H (some ⟨g,0,none⟩) tn tc (some ⟨S,0,none⟩) pn zI (some ⟨gl,0,none⟩) ln zH)) xA).2.2
 have zZ:Below W.heap.size W X0:=xB.trans (bX.mono xB.size);have tM:=xB.size;have xN:=H0.o.2.2.2.2;have yZ:Hid (Jd w b a n c p w1.heap.size sw now E H (.slice (some ⟨g,0,none⟩) tn tc) (.slice (some ⟨S,0,none⟩) pn zI) (.slice (some ⟨gl,0,none⟩) ln zH) (F.zip rs) R U X0):=
  ⟨cX,(hS.ik (fun g hg=>⟨by have:=hS.y g hg;omega,fun e=>by have:=hS.co g hg;omega⟩) xE.o.1).below bX,Aa.below (v:=Ze) H0.o.2.1 zZ,H0.o.2.2.1.below zZ,Ap H0.o.2.2.2.1 (Ak _ zZ),by omega⟩
 have xU:Hid (R.length<=100):=hn.2.1;have zS:Hid ((∀z∈F.zip rs,Hj z.1)/\(F.zip rs).length=F.length):=⟨fun z hz=>xE.o.2 z.1 (List.of_mem_zip hz).1,by rw[List.length_zip,hS.len,Nat.min_self]⟩;have xS:Hid (∀X,X0.grownBy X (some b)->Aa X w.heap.size (Yh sw now E H ka F.length kc pa R.length pc la U.length lc)):=fun X hX=>(Aa.below H0.o.1 zZ).au hX (by omega)
 obtain rfl:tn=F.length:=by obtain⟨_,_,e⟩:=As hS.aj;injection e
 obtain rfl:pn=R.length:=by obtain⟨_,_,e⟩:=As hS.pins;injection e
 obtain rfl:ln=U.length:=by obtain⟨_,_,e⟩:=As hS.aq;injection e
 have xW:Hid _:=xA;clear xA bX cX zZ xB hS hf xT H0 xE s0 s1 s2 s3 s4 s5 s6;generalize F.zip rs=zs at *
 go_upto_region 2 with fail;rw[<-xW.o];clear xW;generalize w1.heap.size=q at *
 obtain⟨v4,_⟩:=yZ.o.box 4 _ rfl;go_wp2_with fail;refine(Ti b a n c p F.length X0 yZ.o.rd hp (by omega) (by omega)).mono ?_;rintro e X1 ⟨k,rfl,hk,vD,xH⟩;clear v4;go_wp2_with fail;refine(AR b a n c (p+1) 12 X1 vD (by omega) (by omega) (by omega) (by omega)).mono ?_;rintro e N ⟨r,rfl,r0,r1,zN,zF⟩
 have C:Hid (Jd w b a n c (p+1+1) q sw now E H (.slice (some ⟨g,0,none⟩) F.length tc) (.slice (some ⟨S,0,none⟩) R.length zI) (.slice (some ⟨gl,0,none⟩) U.length zH) zs R U N):=yZ.o.go (Ap xH zF) zN zB;have xY:=xS.o N (Ap xH zF);have HQ:Hid (N.cell? (Zd (w.heap.size) 0)=some (Zg sw)):=(xY 0 _ rfl).1;clear vD zN xH zF yZ xS xY;generalize vS:p+1+1=p1 at *
 have xL:q<N.heap.size:=C.o.box.lt;have tK:=C.o.q
 have HF:Hid (∀X,N.grownBy X (some b)->Aa X q (Yh sw now E H (some ⟨g,0,none⟩) F.length tc (some ⟨S,0,none⟩) R.length zI (some ⟨gl,0,none⟩) U.length zH)/\BN X (w.heap.size+2) q (.slice (some ⟨g,0,none⟩) F.length tc) (.slice (some ⟨S,0,none⟩) R.length zI) (.slice (some ⟨gl,0,none⟩) U.length zH) zs R U):=fun X hX=>⟨C.o.box.au hX (by omega),C.o.R.J (Tn.grown (V:=[b]) hX (by simp)) (by simp;omega)⟩
 have tF:=Ac C.o.R.p.o (g:=S) rfl;have tE:S≠q:=fun e=>C.o.R.p.q (by rw[e];rfl);have tG:g≠S:=fun e=>by obtain⟨c1,G⟩:=Dc C.o.R.t.o (g:=g) rfl;obtain⟨c2,J⟩:=Dc C.o.R.p.o (g:=S) rfl;rw[e,J]at G;cases G
 have HG:Hid (∀X,Tn [b,S] N X->Aa X q (Yh sw now E H (some ⟨g,0,none⟩) F.length tc (some ⟨S,0,none⟩) R.length zI (some ⟨gl,0,none⟩) U.length zH)/\Aa X (w.heap.size+1) z7/\X.cell? (Zd (w.heap.size) 0)=some (Zg sw)):=fun X hX=>⟨Aa.same C.o.box (hX.block _ C.o.box.lt (by simp;omega)),Aa.same C.o.z (hX.block _ C.o.z.lt (by simp;omega)),(World.cell?_of_block (a:=⟨w.heap.size,0,none⟩) (hX.block w.heap.size (by omega) (by simp;omega))).trans HQ.o⟩
 go_upto_block 0 with fail
 go_cut [6] (fun _ wx=>Hid (DD w b a n c p 40 q wx))
 case rest=>
  clear C HQ HF HG;revert wc;intro Y HE;obtain⟨tC,xR,yQ,yL,T',P',L',xO,tB,vZ,hB,hS⟩:=HE.o.ex;obtain⟨ta,tn,M⟩:=As hS.t.o;obtain⟨tA,pn,hP⟩:=As hS.p.o;obtain⟨vY,ln,hL⟩:=As hS.l.o;subst M hP hL;have HS:Hid _:=hS;obtain⟨x0,x1,x2,x3,x4,x5,x6⟩:=Aa.c7 hB 0 1 2 3 4 5 6;obtain⟨⟨y0,f0⟩,⟨y1,f1⟩,⟨y2,f2⟩,⟨y3,f3⟩,⟨y4,f4⟩,⟨y5,f5⟩,y6,f6⟩:=Gj HE.o.z;clear hS hB;go_wp2
  refine bodyPost_ret (v:=.agg (Yg tC xR yQ yL ta xO.length tn tA tB.length pn vY vZ.length ln)) (by simp[results,results30,go_sem,y0,y1,y2,y3,y4,y5,y6]) rfl (HE.o.fin HS.o zB ?_)
  repeat refine Tn.trans ?_ (Tn.set _ _ _ _ (by simp))
  exact Tn.of Ad
 rcases(show r=0\/r=1\/r=2\/r=3\/r=4\/r=5\/r=6\/r=7\/r=8\/r=9\/r=10\/r=11 by omega)with rfl|rfl|rfl|rfl|rfl|rfl|rfl|rfl|rfl|rfl|rfl|rfl
 .go_wp2_with fail;refine(AR b a n c p1 11 N C.o.rd (by omega) (by omega) (by omega) (by omega)).mono ?_;rintro e X3 ⟨x,rfl,x0,x1,zK,zG⟩;have zC:Hid _:=C.o.go zG zK zB;obtain⟨y0,f0⟩:=zC.o.box 0 _ rfl;have xK:q<X3.heap.size:=zC.o.box.lt;have HE:Hid (∀x,DD w b a n c p 40 q (X3.setCell (Zd q 0) (Zg x))):=fun x=>(zC.o.I zB 0 (by omega) x).more (by omega) (by omega);clear zK zG zC C HQ;go_wp2;go_meet
  exact HE.o _
 .obtain⟨A,Z⟩:=Af (N.alloc (.cells #[Zg (-1),Zg 1000000000,Zg 1000000001] 3));have bA:=(AL (l:=[Zg (-1),Zg 1000000000,Zg 1000000001]) Z).1;have cA:=(AL (l:=[Zg (-1),Zg 1000000000,Zg 1000000001]) Z).2.2;have zO:Hid _:=C.o.go (Ak _ bA) (C.o.rd.below bA) zB;have HP:Hid _:=AR b a n c p1 3 A zO.o.rd (by omega) (by omega) (by omega) (by omega);subst Z;go_wp2_with fail;refine HP.Am ?_
  rintro e X3 ⟨x,rfl,x0,x1,zK,zG⟩;obtain⟨j,rfl⟩:∃j:Nat,x=j:=⟨x.toNat,by omega⟩;have zC:Hid _:=zO.o.go zG zK zB;obtain⟨v,hv⟩:=Hp (cA.au zG (by omega)) (by simp) (j:=j) (by simp;omega);obtain⟨y0,f0⟩:=zC.o.box 1 _ rfl;have xK:q<X3.heap.size:=zC.o.box.lt;have yX:=zG.size;have HE:Hid (∀x,DD w b a n c p 40 q (X3.setCell (Zd q 1) (Zg x))):=fun x=>(zC.o.I zB 1 (by omega) x).more (by omega) (by omega)
  simp only[World.size_alloc]at yX;clear zK zG zC C HQ zO HP cA bA;go_wp2;go_meet;exact HE.o _
 .obtain⟨A,Z⟩:=Af (N.alloc (.cells #[Zg (-1),Ze,Zg 1,Zg 1000000000,Zg 1000000001] 3));have bA:=(AL (l:=[Zg (-1),Ze,Zg 1,Zg 1000000000,Zg 1000000001]) Z).1;have cA:=(AL (l:=[Zg (-1),Ze,Zg 1,Zg 1000000000,Zg 1000000001]) Z).2.2;have zO:Hid _:=C.o.go (Ak _ bA) (C.o.rd.below bA) zB;have HP:Hid _:=AR b a n c p1 5 A zO.o.rd (by omega) (by omega) (by omega) (by omega);subst Z;go_wp2_with fail
  refine HP.Am ?_;rintro e X3 ⟨x,rfl,x0,x1,zK,zG⟩;obtain⟨j,rfl⟩:∃j:Nat,x=j:=⟨x.toNat,by omega⟩;have zC:Hid _:=zO.o.go zG zK zB;obtain⟨v,hv⟩:=Hp (cA.au zG (by omega)) (by simp) (j:=j) (by simp;omega);obtain⟨y0,f0⟩:=zC.o.box 3 _ rfl;have xK:q<X3.heap.size:=zC.o.box.lt;have yX:=zG.size
  have HE:Hid (∀x,DD w b a n c p 40 q (X3.setCell (Zd q 3) (Zg x))):=fun x=>(zC.o.I zB 3 (by omega) x).more (by omega) (by omega);simp only[World.size_alloc]at yX;clear zK zG zC C HQ zO HP cA bA;go_wp2;go_meet;exact HE.o _
 .obtain⟨A,Z⟩:=Af (N.alloc (.cells #[Zg (-1),Ze,Zg 1000000000,Zg 1000000001] 3));have bA:=(AL (l:=[Zg (-1),Ze,Zg 1000000000,Zg 1000000001]) Z).1;have cA:=(AL (l:=[Zg (-1),Ze,Zg 1000000000,Zg 1000000001]) Z).2.2;have zO:Hid _:=C.o.go (Ak _ bA) (C.o.rd.below bA) zB;have HP:Hid _:=AR b a n c p1 4 A zO.o.rd (by omega) (by omega) (by omega) (by omega);subst Z;go_wp2_with fail
  refine HP.Am ?_;rintro e X3 ⟨x,rfl,x0,x1,zK,zG⟩;obtain⟨j,rfl⟩:∃j:Nat,x=j:=⟨x.toNat,by omega⟩;have zC:Hid _:=zO.o.go zG zK zB;obtain⟨v,hv⟩:=Hp (cA.au zG (by omega)) (by simp) (j:=j) (by simp;omega);obtain⟨y0,f0⟩:=zC.o.box 2 _ rfl;have xK:q<X3.heap.size:=zC.o.box.lt;have yX:=zG.size
  have HE:Hid (∀x,DD w b a n c p 40 q (X3.setCell (Zd q 2) (Zg x))):=fun x=>(zC.o.I zB 2 (by omega) x).more (by omega) (by omega);simp only[World.size_alloc]at yX;clear zK zG zC C HQ zO HP cA bA;go_wp2;go_meet;exact HE.o _
 .by_cases hz:F.length=0
  .have zR:¬(0:Int)<(F.length:Int):=by omega
   clear hz hk;have HE:Hid (DD w b a n c p 40 q N):=C.o.same.more (by omega) (by omega);obtain⟨v4,_⟩:=C.o.box 4 _ rfl;clear C HQ;go_wp2;go_meet;exact HE
  have zR:(0:Int)<(F.length:Int):=by omega
  have yU:k<F.length:=by omega
  have yE:k<zs.length:=by rw[zS.o.2];exact yU
  have yO:=Zv yE;have HB:Hid (Hj zs[k].1):=zS.o.1 _ (List.getElem_mem yE)
  have HC:Hid (∀X,N.grownBy X (some b)->∃ra rc,zs[k].2=.slice ra zs[k].1.B.length rc/\X.cell? (Zd g (k *4+2))=some (.string zs[k].1.F)/\X.cell? (Zd g (k *4+3))=some (.slice ra zs[k].1.B.length rc)/\X.frozen? ⟨g,k *4+2,none⟩=false/\X.frozen? ⟨g,k *4+3,none⟩=false/\Ab X X.heap.size ra zs[k].1.B/\(ra=none->zs[k].1.B.length=0/\rc=0)/\g<X.heap.size):=fun X hX=>by
   have hS:=(HF.o X hX).2;have G:=(hS.r _ (List.getElem_mem yE)).o;obtain⟨ra,rc,e⟩:=As G;have ho:=hS.t.o;rw[zS.o.2]at ho;have c2:=ho.cellAt (k *4+2) (by omega);have c3:=ho.cellAt (k *4+3) (by omega);rw[BZ Cb yO (show 2<4 by decide)]at c2;rw[BZ Cb yO (show 3<4 by decide)]at c3;have vJ:X.cell? (Zd g (k *4+3))=some (.slice ra zs[k].1.B.length rc):=by rw[<-e];exact c3
   rw[e]at G;have J:=TC G;exact⟨ra,rc,e,c2,vJ,Je ho _,Je ho _,J.1,J.2,(Ac ho (g:=g) rfl).2⟩
  have yB:=(Ac C.o.R.t.o (g:=g) rfl).1;have yK:g≠q:=fun e=>C.o.R.t.q (by rw[e];rfl);obtain⟨v4,_⟩:=C.o.box 4 _ rfl;generalize zs[k]=z at *
  go_upto_region 15 with fail;rw[decide_eq_true (show 0<F.length by omega)];clear v4;obtain⟨ra,rc,vG,_⟩:=HC.o N (AJ _ _);have xX:Hid (z.2=.slice ra z.1.B.length rc):=vG;clear vG
  refine BL [59,60,61,62,63,64,65,66,67,68,69,70,71] 13 rfl _ rfl (by kernel_rfl) (by kernel_rfl) (by kernel_rfl) (by kernel_rfl) (by kernel_rfl) (by decide) (by kernel_rfl) [] (by kernel_rfl) (fun L X=>(∃B,AA X b a n c B/\p1<=B/\B<=p1+2/\(L 10=false->B=p1))/\N.grownBy X (some b)) (fun i X v=>match i with
   |0=>v=.pointer (some ⟨q,4,none⟩)
   |1=>v=.slice (some ⟨g,0,none⟩) F.length tc
   |2=>v=Zg k
   |3=>v=.pointer (some ⟨b,0,none⟩)
   |4=>v=.pointer (some ⟨q,4,none⟩)
   |5=>v=.slice (some ⟨g,0,none⟩) F.length tc
   |6=>v=Zg k
   |7=>v=.pointer (some ⟨g,k *4,none⟩)
   |8=>v=.pointer (some ⟨g,k *4+2,none⟩)
   |9=>v=.agg #[.string z.1.F,.slice ra z.1.B.length rc]
   |10=>∃(t:Zi) (yF:Zk) (yG:Nat) (ss:Zl),v=.agg #[.string t,.slice yF ss.length yG]/\t.size<=2001/\ss.length<=31/\(∀s∈ss,s.size<=8)/\Ow X (w.heap.size+2) q 9 1 (.slice yF ss.length yG) ss.length (ss.map Value.string)
   |11=>v=.pointer (some ⟨g,k *4,none⟩)
   |12=>v=.pointer (some ⟨g,k *4+2,none⟩)
   |_=>True) (fun _ X Y=>X.grownBy Y (some b)) ?_ ⟨⟨p1,C.o.rd.drew,by omega,by omega,fun _=>rfl⟩,⟨rfl,rfl,rfl,Zx,fun _ _ _=>rfl⟩⟩ ?_ ?_
  .intro j i X Y v zX yD yJ hE M;rcases i with _|_|_|_|_|_|_|_|_|_|_|_|_|_<;>first|exact M|exact trivial|skip
   .obtain⟨t,yF,yG,ss,e,G,J,h3,h4⟩:=M;exact⟨t,yF,yG,ss,e,G,J,h3,h4.J (Tn.grown (V:=[b]) hE (by simp)) (by simp;omega)⟩
  .intro i o' L x X hi ho hL hD D I K f;obtain⟨vH,vI,Q,c2,c3,_⟩:=HC.o X D.2;rw[xX.o]at Q;injection Q with e2 e3 e4;subst e2 e4;obtain⟨b0,b1,b2,b3,b4,b5,b6⟩:=Aa.c7 (HF.o X D.2).1 0 1 2 3 4 5 6;have hr:X.grownBy X (some b):=AJ _ _
   have O:i≠10->∀Y,Zz X Y->(∃B,AA Y b a n c B/\p1<=B/\B<=p1+2/\(Bp L i 10=false->B=p1))/\N.grownBy Y (some b):=fun h6 Y hY=>⟨D.1.imp (fun B h=>⟨h.1.below hY,h.2.1,h.2.2.1,fun h9=>h.2.2.2 (by unfold Bp at h9;rw[if_neg (Ne.symm h6)]at h9;exact h9)⟩),Ap D.2 (Ak _ hY)⟩
   rcases(show i=0\/i=1\/i=2\/i=3\/i=4\/i=5\/i=6\/i=7\/i=8\/i=9\/i=10\/i=11\/i=12 by omega)with rfl|rfl|rfl|rfl|rfl|rfl|rfl|rfl|rfl|rfl|rfl|rfl|rfl<;>cases ho<;>simp only[Bc,Act.put,Zq,Zp,Zo]at f |-
   all_goals try (go_simp;exact f.out _ X rfl hr (O (by omega) X Ad))
   all_goals try (simp[EB,Region.binds]at I;simp only[I]at f |-;go_simp;exact f.out _ X rfl hr (O (by omega) X Ad))
   .have d3:=I ⟨3,.data⟩ (by simp) (by rfl);have d9:=I ⟨9,.data⟩ (by simp) (by rfl);rw[show x 3=.pointer (some ⟨b,0,none⟩)from d3,show x 9=.agg #[.string z.1.F,.slice ra z.1.B.length rc]from d9]at f |-;obtain⟨⟨B,zE,zT,zU,zJ⟩,zA⟩:=D;obtain⟨vH,vI,Q,c2,c3,_,_,vU,vR,_⟩:=HC.o X zA;rw[xX.o]at Q;injection Q with e2 e3 e4;subst e2 e4;have xC:=zJ hL;clear c2 c3 e3;go_simp
    refine(NJ b a n c B z.1.F ra rc z.1.B X zE (by omega) (by omega) vU vR HB.o.1 HB.o.2.1 HB.o.2.2).mono ?_;rintro e X' ⟨⟨t,yF,yG,ss,rfl,vF,vV,vW,zM⟩,⟨⟨p2,zN,h3,h4⟩,zF⟩⟩;have xZ:=zA.size;exact f.out _ X' ⟨t,yF,yG,ss,rfl,vF,vV,vW,zM.mono (by omega),fun e=>by have:=(Ac zM e).1;omega⟩ zF ⟨⟨p2,zN,by omega,by omega,fun h=>by unfold Bp at h;simp at h⟩,Ap zA zF⟩
  .intro L x X hL D M K f;simp only[Bc,Act.put,Zq,Zp,Zo];obtain⟨t,yF,yG,ss,Q,G,J,h3,h4⟩:=M 10 (by decide) (fun j=>by simp);have vK:=M 12 (by decide) (fun j=>by simp);obtain⟨⟨B,zE,zT,zU,zJ⟩,zA⟩:=D;obtain⟨vH,vI,_,c2,c3,f2,f3,_,_,xI⟩:=HC.o X zA;have hI:=C.o.go zA zE zB;have hm:(100000:Nat)<=maxLen:=by unfold maxLen;omega
   have HE:Hid (DD w b a n c p 40 q ((X.setCell (Zd g (k *4+2)) (.string t)).setCell (Zd g (k *4+3)) (.slice yF ss.length yG))):=(hI.rows zB (Tn.trans (AS X g _ _) (AS _ g _ _)) yB yK (hI.R.setT yO h4 (by omega) (by omega) (fun s hs=>by have:=h3 s hs;omega))).more (by omega) (by omega);rw[Q,show x 12=.pointer (some ⟨g,k *4+2,none⟩)from vK];clear M hI h4 HF HC C HB;go_simp;refine f.out _ _ ?_
   clear f K;go_wp2;go_meet;exact HE
 .by_cases hz:F.length<=1
  .have zR:¬(1:Int)<(F.length:Int):=by omega
   clear hz hk;have HE:Hid (DD w b a n c p 40 q N):=C.o.same.more (by omega) (by omega);obtain⟨v4,_⟩:=C.o.box 4 _ rfl;clear C HQ;go_wp2;go_meet;exact HE
  have zR:(1:Int)<(F.length:Int):=by omega
  have xN:0<F.length:=by omega
  obtain⟨z0,z1,zr,vX⟩:∃z0 z1 zr,zs=z0::z1::zr:=by
   have hl:=zS.o.2
   match zs,hl with
   |[],hl=>simp at hl;omega
   |[_],hl=>simp at hl;omega
   |z0::z1::zr,_=>exact⟨z0,z1,zr,rfl⟩
  subst vX;have HC:Hid (∀X,N.grownBy X (some b)->X.cell? (Zd g 5)=some (Zg z1.1.born)/\X.cell? (Zd g 1)=some (Zg z0.1.born)/\X.frozen? ⟨g,1,none⟩=false/\g<X.heap.size):=fun X hX=>by have ho:=(HF.o X hX).2.t.o;rw[zS.o.2]at ho;exact⟨ho.cellAt 5 (by omega),ho.cellAt 1 (by omega),Je ho _,(Ac ho (g:=g) rfl).2⟩
  have xV:Hid ((Lit.int .i64 z1.1.born).wf=true):=(C.o.R.w.k z1.1 (by simp)).b;have yB:=(Ac C.o.R.t.o (g:=g) rfl).1;have yK:g≠q:=fun e=>C.o.R.t.q (by rw[e];rfl);obtain⟨v4,_⟩:=C.o.box 4 _ rfl;go_upto_region 18 with fail;try rw[decide_eq_true (show 1<F.length by omega)]
  clear v4;refine BL [78,79,80,81,82,83,84,85,86] 9 rfl _ rfl (by kernel_rfl) (by kernel_rfl) (by kernel_rfl) (by kernel_rfl) (by kernel_rfl) (by decide) (by kernel_rfl) [] (by kernel_rfl) (fun L X=>(∃B,AA X b a n c B/\p1<=B/\B<=p1+2/\(L 99=false->B=p1))/\N.grownBy X (some b)) (fun i X v=>match i with
   |0=>v=.pointer (some ⟨q,4,none⟩)
   |1=>v=.slice (some ⟨g,0,none⟩) F.length tc
   |2=>v=.pointer (some ⟨q,4,none⟩)
   |3=>v=.slice (some ⟨g,0,none⟩) F.length tc
   |4=>v=.pointer (some ⟨g,4,none⟩)
   |5=>v=.pointer (some ⟨g,5,none⟩)
   |6=>v=Zg z1.1.born
   |7=>v=.pointer (some ⟨g,0,none⟩)
   |8=>v=.pointer (some ⟨g,1,none⟩)
   |_=>True) (fun _ X Y=>X.grownBy Y (some b)) ?_ ⟨⟨p1,C.o.rd.drew,by omega,by omega,fun _=>rfl⟩,⟨rfl,rfl,rfl,Zx,fun _ _ _=>rfl⟩⟩ ?_ ?_
  .intro j i X Y v zX yD yJ hE M;rcases i with _|_|_|_|_|_|_|_|_|_<;>first|exact M|exact trivial|skip
  .intro i o' L x X hi ho hL hD D I K f;obtain⟨c5,_⟩:=HC.o X D.2;obtain⟨b0,b1,b2,b3,b4,b5,b6⟩:=Aa.c7 (HF.o X D.2).1 0 1 2 3 4 5 6;have hr:X.grownBy X (some b):=AJ _ _
   have O:i≠99->∀Y,Zz X Y->(∃B,AA Y b a n c B/\p1<=B/\B<=p1+2/\(Bp L i 99=false->B=p1))/\N.grownBy Y (some b):=fun h6 Y hY=>⟨D.1.imp (fun B h=>⟨h.1.below hY,h.2.1,h.2.2.1,fun h9=>h.2.2.2 (by unfold Bp at h9;rw[if_neg (Ne.symm h6)]at h9;exact h9)⟩),Ap D.2 (Ak _ hY)⟩
   rcases(show i=0\/i=1\/i=2\/i=3\/i=4\/i=5\/i=6\/i=7\/i=8 by omega)with rfl|rfl|rfl|rfl|rfl|rfl|rfl|rfl|rfl<;>cases ho<;>simp only[Bc,Act.put,Zq,Zp,Zo]at f |-
   all_goals try (go_simp;exact f.out _ X rfl hr (O (by omega) X Ad))
   all_goals try (simp[EB,Region.binds]at I;simp only[I]at f |-;go_simp;exact f.out _ X rfl hr (O (by omega) X Ad))
  .intro L x X hL D M K f;simp only[Bc,Act.put,Zq,Zp,Zo];have d6:=M 6 (by decide) (fun j=>by simp);have d8:=M 8 (by decide) (fun j=>by simp);obtain⟨⟨B,zE,zT,zU,zJ⟩,zA⟩:=D;obtain⟨c5,c1,f1,xI⟩:=HC.o X zA;have hI:=C.o.go zA zE zB;have HE:Hid (DD w b a n c p 40 q (X.setCell (Zd g 1) (Zg z1.1.born))):=(hI.rows zB (AS X g _ _) yB yK (hI.R.setB xV.o)).more (by omega) (by omega)
   rw[show x 6=Zg z1.1.born from d6,show x 8=.pointer (some ⟨g,1,none⟩)from d8];clear M hI HF HC C xV;go_simp;refine f.out _ _ ?_;clear f K;go_wp2;go_meet;exact HE
 .by_cases hz:F.length=0
  .have zR:¬(0:Int)<(F.length:Int):=by omega
   clear hz hk;have HE:Hid (DD w b a n c p 40 q N):=C.o.same.more (by omega) (by omega);obtain⟨v4,_⟩:=C.o.box 4 _ rfl;clear C HQ;go_wp2;go_meet;exact HE
  have zR:(0:Int)<(F.length:Int):=by omega
  have yU:k<F.length:=by omega
  have yE:k<zs.length:=by rw[zS.o.2];exact yU
  have vN:k+1<=zs.length:=yE;have tO:=zS.o.2;have tH:IntKind.i64.wrap ((k:Int)+1)=(k:Int)+1:=Bs (by omega) (by omega);have HG:Hid (∀X,Zz N X->Aa X q (Yh sw now E H (some ⟨g,0,none⟩) F.length tc (some ⟨S,0,none⟩) R.length zI (some ⟨gl,0,none⟩) U.length zH)/\X.ownsRow (w.heap.size+2) 65 4 (.slice (some ⟨g,0,none⟩) zs.length tc) zs.length (Ag kC zs)):=fun X hX=>by have G:=Al C.o.R.t.o hX;refine⟨Aa.below C.o.box hX,?_⟩;rw[zS.o.2]at G |-;exact G
  have HZ:Hid (∀z∈zs,∃a n c,z.2=.slice a n c):=fun z hz=>by obtain⟨a,c,e⟩:=As (C.o.R.r z hz).o;exact⟨a,_,c,e⟩
  have yB:=Ac C.o.R.t.o (g:=g) rfl;obtain⟨v4,_⟩:=C.o.box 4 _ rfl;go_upto_region 21 with fail;try rw[decide_eq_true (show 0<F.length by omega)]
  clear v4;refine BL [93,94,95,96,97,98,99,100,101,102,103,104,105] 13 rfl _ rfl (by kernel_rfl) (by kernel_rfl) (by kernel_rfl) (by kernel_rfl) (by kernel_rfl) (by decide) (by kernel_rfl) [(5,0),(11,0),(11,5)] (by kernel_rfl) (fun _ X=>Zz N X/\N.heap.size<=X.heap.size) (fun i X v=>match i with
   |0=>∃m,v=.slice (some ⟨m,0,none⟩) 0 0/\X.ownsRow N.heap.size 65 4 (.slice (some ⟨m,0,none⟩) 0 0) 0 []
   |1=>v=.pointer (some ⟨q,4,none⟩)
   |2=>v=.slice (some ⟨g,0,none⟩) F.length tc
   |3=>v=Zg k
   |4=>v=.slice (some ⟨g,0,none⟩) k tc
   |5=>∃g' c',v=.slice (some ⟨g',0,none⟩) k c'/\X.ownsRow N.heap.size 65 4 (.slice (some ⟨g',0,none⟩) k c') (zs.take k).length (Ag kC (zs.take k))
   |6=>v=.pointer (some ⟨q,4,none⟩)
   |7=>v=.slice (some ⟨g,0,none⟩) F.length tc
   |8=>v=Zg k
   |9=>v=Zg ((k:Int)+1)
   |10=>∃off c',v=.slice (some ⟨g,off,none⟩) (zs.drop (k+1)).length c'/\∀j u,(Ag kC (zs.drop (k+1)))[j]?=some u->N.cell? (Zd g (off+j))=some u
   |11=>∃g' c',v=.slice (some ⟨g',0,none⟩) (F.length -1) c'/\X.ownsRow N.heap.size 65 4 (.slice (some ⟨g',0,none⟩) (F.length -1) c') (zs.take k++zs.drop (k+1)).length (Ag kC (zs.take k++zs.drop (k+1)))
   |12=>v=.pointer (some ⟨q,4,none⟩)
   |_=>True) (fun j X Y=>Below N.heap.size X Y/\(j≠5->j≠11->Zz X Y)) ?_ ⟨Ad.drew,Zx⟩ ?_ ?_
  .intro j i X Y v zX yD yJ hE M;obtain⟨G,h3⟩:=hE;rcases i with _|_|_|_|_|_|_|_|_|_|_|_|_|_<;>first|exact M|exact trivial|skip
   .obtain⟨m,e,h⟩:=M;exact⟨m,e,Al h (h3 (fun e=>yD (by rw[e];simp)) (fun e=>yD (by rw[e];simp)))⟩
   .obtain⟨g',c',e,h⟩:=M;exact⟨g',c',e,Al h (h3 (fun e=>zX e) (fun e=>yD (by rw[e];simp)))⟩
   .obtain⟨g',c',e,h⟩:=M;exact⟨g',c',e,Al h (h3 (fun e=>by subst e;have h9:=yJ.symm.trans (by kernel_rfl:_=true);cases h9) (fun e=>zX e))⟩
  .intro i o' L x X hi ho hL hD D I K f;obtain⟨b0,b1,b2,b3,b4,b5,b6⟩:=Aa.c7 (HG.o X D.1).1 0 1 2 3 4 5 6;have hr:Below N.heap.size X X/\(i≠5->i≠11->Zz X X):=⟨Ad,fun _ _=>Below.refl _ _⟩;rcases(show i=0\/i=1\/i=2\/i=3\/i=4\/i=5\/i=6\/i=7\/i=8\/i=9\/i=10\/i=11\/i=12 by omega)with rfl|rfl|rfl|rfl|rfl|rfl|rfl|rfl|rfl|rfl|rfl|rfl|rfl<;>cases ho<;>simp only[Bc,Act.put,Zq,Zp,Zo]at f |-
   all_goals try (go_simp;exact f.out _ X rfl hr D)
   all_goals try (simp[EB,Region.binds]at I;simp only[I]at f |-;go_simp;exact f.out _ X rfl hr D)
   .have Z:Below X.heap.size X (X.alloc (.cells #[] 65)):=Zy;have zV:=D.2;go_simp;exact f.out _ _ ⟨X.heap.size,rfl,World.ownsRow_lit (base:=N.heap.size) (e:=65) (size:=4) X #[] 0 zV (by unfold maxLen;omega) rfl⟩ ⟨Z.mono zV,fun _ _=>Z⟩ ⟨D.1.trans (Z.mono zV),Zm zV Z.size⟩
   .have d2:=I ⟨2,.data⟩ (by simp) (by rfl);have d3:=I ⟨3,.data⟩ (by simp) (by rfl);rw[show x 2=.slice (some ⟨g,0,none⟩) F.length tc from d2,show x 3=Zg k from d3]at f |-;have yN:F.length<=tc/\tc<=maxLen:=by
     rcases(HG.o X D.1).2.2 with⟨e,_⟩|⟨_,_,_,e,_,_,G,J,_⟩
     .cases e
     .cases e;omega
    unfold maxLen at yN;have vM:k<=tc:=by omega
    go_simp;exact f.out _ X rfl hr D
   .obtain⟨m,e0,h0⟩:=I ⟨0,.data⟩ (by simp) (by rfl);have d4:=I ⟨4,.data⟩ (by simp) (by rfl);rw[e0,show x 4=.slice (some ⟨g,0,none⟩) k tc from d4]at f |-;have hl:(zs.take k).length=k:=by rw[List.length_take];omega
    have yA:=(HG.o X D.1).2;obtain⟨g',c',X',zY,zM,yC⟩:=LD X N.heap.size _ [] (zs.take k) h0 (some ⟨g,0,none⟩) tc (fun e=>by cases e) (fun A' e j u hu=>by
     cases e;rcases Ho yA (Nat.le_of_lt yE)with⟨e,_⟩|⟨g2,cap,e,_,_,_,_,xP,_⟩
     .cases e
     .cases e;exact xP j u hu) (fun z hz=>HZ.o z (List.mem_of_mem_take hz)) (by simp) (by omega) D.2 (fun e=>by cases e) 23
    rw[hl]at zY zM;simp only[List.length_nil,Nat.zero_add,List.nil_append]at zY zM;have zV:=D.2;have yI:Below N.heap.size X X':=Ad.grown yC zV (fun q hq=>(Ac h0 hq).1);refine Cr (.tmp 93) (.tmp 97) 23 rfl rfl rfl zY ?_;exact f.out _ X' ⟨g',c',rfl,zM⟩ ⟨yI,fun h=>absurd rfl h⟩ ⟨D.1.trans yI,Zm zV yC.size⟩
   .have d7:=I ⟨7,.data⟩ (by simp) (by rfl);have d9:=I ⟨9,.data⟩ (by simp) (by rfl);rw[show x 7=.slice (some ⟨g,0,none⟩) F.length tc from d7,show x 9=Zg ((k:Int)+1)from d9]at f |-;have yN:F.length<=tc/\tc<=maxLen:=by
     rcases(HG.o X D.1).2.2 with⟨e,_⟩|⟨_,_,_,e,_,_,G,J,_⟩
     .cases e
     .cases e;omega
    have vO:(zs.drop (k+1)).length=F.length -(k+1):=by rw[List.length_drop];omega
    rcases Ho (HG.o N Ad).2 vN with⟨e,_⟩|⟨g2,cap,e,_,_,_,_,_,off,Z,xQ⟩
    .cases e
    .cases e;unfold maxLen at yN;have vM:k+1<=tc:=by omega
     have vF:((k:Int)+1).toNat=k+1:=by omega
     have tI:(0:Int)<=(k:Int)+1:=by omega
     have vS:(k:Int)+1<=(F.length:Int):=by omega
     go_simp;try rw[Z]
     try rw[<-vO]
     exact f.out _ X ⟨off,_,rfl,xQ⟩ hr D
   .obtain⟨g6,c6,e6,h6⟩:=I ⟨5,.data⟩ (by simp) (by rfl);obtain⟨off,c0,e0,vL⟩:=I ⟨10,.data⟩ (by simp) (by rfl);rw[e6,e0]at f |-;obtain⟨g',c',X',zY,zM,yC⟩:=LD X N.heap.size _ (zs.take k) (zs.drop (k+1)) h6 (some ⟨g,off,none⟩) c0 (fun e=>by cases e) (fun A e j u hu=>by
     cases e;rw[Go.WideShapes.add_plain];exact(D.1.cell (p:=⟨g,off+j,none⟩) yB.2).trans (vL j u hu)) (fun z hz=>HZ.o z (List.mem_of_mem_drop hz)) (by simp;omega) (by simp;omega) D.2 (fun e=>by cases e) 23
    rw[show(zs.take k).length=k from by rw[List.length_take];omega,show k+(zs.drop (k+1)).length=F.length -1 from by rw[List.length_drop];omega]at zY zM;have zV:=D.2;have yY:Below N.heap.size X X':=Ad.grown yC zV (fun q hq=>(Ac h6 hq).1);refine Cr (.tmp 98) (.tmp 103) 23 rfl rfl rfl zY ?_;exact f.out _ X' ⟨g',c',rfl,zM⟩ ⟨yY,fun _ h=>absurd rfl h⟩ ⟨D.1.trans yY,Zm zV yC.size⟩
  .intro L x X hL D M K f;simp only[Bc,Act.put,Zq,Zp,Zo];obtain⟨g',c',Q,ho⟩:=M 11 (by decide) (fun j=>by simp);have d:=M 12 (by decide) (fun j=>by simp);obtain⟨hB,_⟩:=HG.o X D.1;have tD:=Ac ho (g:=g') rfl;have HE:Hid (DD w b a n c p 40 q (X.setCell (Zd q 4) (.slice (some ⟨g',0,none⟩) (F.length -1) c'))):=by
    have ht:=AS X q 4 (.slice (some ⟨g',0,none⟩) (F.length -1) c');have hS:=(C.o.R.below D.1).aj (T':=.slice (some ⟨g',0,none⟩) (F.length -1) c') (Tn.of Ad) ⟨ho.mono (by omega),fun e=>by simp[Value.ownBlock]at e;omega⟩ (fun z hz=> .inl (by rcases List.mem_append.1 hz with h|h;exact List.mem_of_mem_take h;exact List.mem_of_mem_drop h)) (by simp;omega)
    have hZ:=Aa.below (v:=Ze) C.o.z D.1;exact⟨⟨_,_,_,_,_,_,_,_,_,_,hB.set 4 _,hS.J ht (by simp)⟩,Aa.same hZ (ht.block _ hZ.lt (by simp;omega)),⟨p1,(C.o.rd.below D.1).J ht (by simp;omega) (by simp;omega),by omega,by omega⟩,CK (Ap C.o.gr (Ak _ D.1)) ht (by simp;omega)⟩
   obtain⟨y4,f4⟩:=hB 4 _ rfl;have xL:=hB.lt;rw[Q,show x 12=.pointer (some ⟨q,4,none⟩)from d];clear M hB HG C HQ ho D;go_simp;refine f.out _ _ ?_;clear f K;go_wp2;go_meet;exact HE
 .have yW:R.length<=100:=xU.o;go_upto_region 23 with fail
  refine BL [108,109,110,111,112,113,114,115,116,117,118,119,120,121] 14 rfl _ rfl (by kernel_rfl) (by kernel_rfl) (by kernel_rfl) (by kernel_rfl) (by kernel_rfl) (by decide) (by kernel_rfl) [] (by kernel_rfl) (fun L X=>(∃B,AA X b a n c B/\p1<=B/\B<=p1+2/\(L 4=false->B=p1))/\Tn [b,S] N X/\(L 12=false->N.grownBy X (some b))) (fun i X v=>match i with
   |0=>v=.pointer (some ⟨q,5,none⟩)
   |1=>v=.slice (some ⟨S,0,none⟩) R.length zI
   |2=>∃o,v=.slice (some ⟨o,0,none⟩) 4 4/\o≠b/\o≠S/\Aa X o [.string ⟨#[112]⟩,.string ⟨#[122]⟩,Zc,.string ⟨#[120,32,121]⟩]
   |3=>v=.pointer (some ⟨b,0,none⟩)
   |4=>∃j:Nat,v=Zg j/\j<4
   |5=>∃o j',v=.pointer (some ⟨o,j',none⟩)/\o≠b/\o≠S/\o<X.heap.size/\∃s:Zi,s.size<=3/\X.cell? (Zd o j')=some (.string s)
   |6=>∃s:Zi,v=.string s/\s.size<=3
   |7=>v=.pointer (some ⟨w.heap.size,0,none⟩)
   |8=>v=Zg sw
   |9=>∃s:Zi,v=.string s/\s.size<=maxLen
   |10=>∃s u:Zi,v=.agg #[.string s,.string u]/\s.size<=3/\u.size<=maxLen
   |11=>∃o,v=.slice (some ⟨o,0,none⟩) 1 1/\o≠b/\o≠S/\∃s u:Zi,s.size<=3/\u.size<=maxLen/\Aa X o [.string s,.string u]
   |12=>∃g' c' y,v=.slice (some ⟨g',0,none⟩) (R.length+1) c'/\BN X (w.heap.size+2) q (.slice (some ⟨g,0,none⟩) F.length tc) (.slice (some ⟨g',0,none⟩) (R.length+1) c') (.slice (some ⟨gl,0,none⟩) U.length zH) zs (R++[y]) U
   |13=>v=.pointer (some ⟨q,5,none⟩)
   |_=>True) (fun j X Y=>Tn [b,S] X Y/\(j≠12->X.grownBy Y (some b))) ?_ ⟨⟨p1,C.o.rd.drew,by omega,by omega,fun _=>rfl⟩,Tn.of Ad.drew,fun _=>⟨rfl,rfl,rfl,Zx,fun _ _ _=>rfl⟩⟩ ?_ ?_
  .intro j i X Y v zX yD yJ hE M;rcases i with _|_|_|_|_|_|_|_|_|_|_|_|_|_|_<;>first|exact M|exact trivial|skip
   .obtain⟨o,e,G,h0,J⟩:=M;exact⟨o,e,G,h0,Aa.same J (hE.1.block _ J.lt (by simp;exact⟨G,h0⟩))⟩
   .obtain⟨o,j',e,G,h0,J,s,h3,h4⟩:=M;exact⟨o,j',e,G,h0,Zr J hE.1.size,s,h3,(World.cell?_of_block (a:=⟨o,j',none⟩) (hE.1.block o J (by simp;exact⟨G,h0⟩))).trans h4⟩
   .obtain⟨o,e,G,h0,s,u,hs,hu,J⟩:=M;exact⟨o,e,G,h0,s,u,hs,hu,Aa.same J (hE.1.block _ J.lt (by simp;exact⟨G,h0⟩))⟩
   .obtain⟨g',c',y,e,G⟩:=M;exact⟨g',c',y,e,G.J (Tn.grown (V:=[b]) (hE.2 (fun e=>zX e)) (by simp)) (by simp;omega)⟩
  .intro i o' L x X hi ho hL hD D I K f;obtain⟨b0,b1,b2,b3,b4,b5,b6⟩:=Aa.c7 (HG.o X D.2.1).1 0 1 2 3 4 5 6;have c9:=(HG.o X D.2.1).2.2;have hr:Tn [b,S] X X/\(i≠12->X.grownBy X (some b)):=⟨Tn.of Ad,fun _=>AJ _ _⟩
   have O:i≠4->i≠12->∀Y,Zz X Y->(∃B,AA Y b a n c B/\p1<=B/\B<=p1+2/\(Bp L i 4=false->B=p1))/\Tn [b,S] N Y/\(Bp L i 12=false->N.grownBy Y (some b)):=fun h6 h7 Y hY=>⟨D.1.imp (fun B h=>⟨h.1.below hY,h.2.1,h.2.2.1,fun h9=>h.2.2.2 (by unfold Bp at h9;rw[if_neg (Ne.symm h6)]at h9;exact h9)⟩),D.2.1.trans (Tn.of hY),fun h9=>Ap (D.2.2 (by unfold Bp at h9;rw[if_neg (Ne.symm h7)]at h9;exact h9)) (Ak _ hY)⟩
   rcases(show i=0\/i=1\/i=2\/i=3\/i=4\/i=5\/i=6\/i=7\/i=8\/i=9\/i=10\/i=11\/i=12\/i=13 by omega)with rfl|rfl|rfl|rfl|rfl|rfl|rfl|rfl|rfl|rfl|rfl|rfl|rfl|rfl<;>cases ho<;>simp only[Bc,Act.put,Zq,Zp,Zo]at f |-
   all_goals try (go_simp;exact f.out _ X rfl hr (O (by omega) (by omega) X Ad))
   all_goals try (simp[EB,Region.binds]at I;simp only[I]at f |-;go_simp;exact f.out _ X rfl hr (O (by omega) (by omega) X Ad))
   .have Z:Below X.heap.size X (X.alloc (.cells #[.string ⟨#[112]⟩,.string ⟨#[122]⟩,Zc,.string ⟨#[120,32,121]⟩] 9)):=Zy;have yS:=D.2.1.size;go_simp;exact f.out _ _ ⟨X.heap.size,rfl,by omega,by omega,Aa.new X _ _⟩ ⟨Tn.of Z,fun _=>Ak _ Z⟩ (O (by omega) (by omega) _ Z)
   .have d:=I ⟨3,.data⟩ (by simp) (by rfl);rw[show x 3=.pointer (some ⟨b,0,none⟩)from d]at f |-;obtain⟨⟨B,zE,zT,zU,zJ⟩,zA,yW⟩:=D;have xC:=zJ hL;go_simp;refine(AR b a n c B 4 X zE (by omega) (by omega) (by omega) (by omega)).mono ?_;rintro e X' ⟨y,rfl,y0,y1,zN,zF⟩;have zP:Tn [b,S] X X':=Tn.grown zF (by simp)
    exact f.out _ X' ⟨y.toNat,by congr 1;omega,by omega⟩ ⟨zP,fun _=>zF⟩ ⟨⟨B+1,zN,by omega,by omega,fun h=>by unfold Bp at h;simp at h⟩,zA.trans zP,fun h=>Ap (yW (by unfold Bp at h;rw[if_neg (by omega)]at h;exact h)) zF⟩
   .obtain⟨o,Q,G,h0,J⟩:=I ⟨2,.data⟩ (by simp) (by rfl);obtain⟨j,e2,h3⟩:=I ⟨4,.data⟩ (by simp) (by rfl);rw[Q,e2]at f |-;obtain⟨s,hs,h4⟩:=PG J (by intro i hi;simp at hi;rcases(show i=0\/i=1\/i=2\/i=3 by omega)with rfl|rfl|rfl|rfl<;>first|exact⟨_,by decide,rfl⟩|omega) (j:=j) (by simp;omega);have h5:=J.lt;have h6:(j:Int)<4:=by omega
    clear J;go_simp;exact f.out _ X ⟨o,j,rfl,G,h0,h5,s,hs,h4⟩ hr (O (by omega) (by omega) X Ad)
   .obtain⟨o,j',Q,G,h0,J,s,hs,h3⟩:=I ⟨5,.data⟩ (by simp) (by rfl);rw[Q]at f |-;go_simp;exact f.out _ X ⟨s,rfl,hs⟩ hr (O (by omega) (by omega) X Ad)
   .have d:=I ⟨8,.data⟩ (by simp) (by rfl);rw[show x 8=Zg sw from d]at f |-;go_simp;refine(Vv _ sw X (by decide)).mono ?_;rintro e X' ⟨u,rfl,hu,xG⟩;exact f.out _ X' ⟨u,rfl,hu⟩ ⟨Tn.of xG,fun _=>Ak _ xG⟩ (O (by omega) (by omega) _ xG)
   .obtain⟨s,Q,hs⟩:=I ⟨6,.data⟩ (by simp) (by rfl);obtain⟨u,e2,hu⟩:=I ⟨9,.data⟩ (by simp) (by rfl);rw[Q,e2]at f |-;go_simp;exact f.out _ X ⟨s,u,rfl,hs,hu⟩ hr (O (by omega) (by omega) X Ad)
   .obtain⟨s,u,Q,hs,hu⟩:=I ⟨10,.data⟩ (by simp) (by rfl);rw[Q]at f |-;have Z:Below X.heap.size X (X.alloc (.cells #[.string s,.string u] 48)):=Zy;have yS:=D.2.1.size;go_simp;exact f.out _ _ ⟨X.heap.size,rfl,by omega,by omega,s,u,hs,hu,Aa.new X _ _⟩ ⟨Tn.of Z,fun _=>Ak _ Z⟩ (O (by omega) (by omega) _ Z)
   .have d:=I ⟨1,.data⟩ (by simp) (by rfl);obtain⟨o,Q,G,h0,s,u,hs,hu,J⟩:=I ⟨11,.data⟩ (by simp) (by rfl);rw[show x 1=.slice (some ⟨S,0,none⟩) R.length zI from d,Q]at f |-;have hS:=(HF.o X (D.2.2 hL)).2;have xZ:=D.2.1.size;obtain⟨g',c',X',zY,zM,yC,yT⟩:=TU X (w.heap.size+2) _ R ⟨s,u⟩ hS.p.o o J (by omega) (by omega) 24;have yP:X.grownBy X' (some S):=yC;have yH:Tn [S] X X':=Tn.grown yP (by simp)
    have zP:Tn [b,S] X X':=yH.mono (by simp);have xJ:(Value.slice (some ⟨g',0,none⟩) (R.length+1) c').ownBlock≠some q:=fun e=>by simp[Value.ownBlock]at yT e;rcases yT with h|h<;>omega
    have hm:(10:Nat)<=maxLen:=by unfold maxLen;omega
    have xF:=hS.pins yH ⟨zM,xJ⟩ (fun p hp=>by rcases List.mem_append.1 hp with h|h;exact .inl h;rw[List.mem_singleton.1 h];exact .inr ⟨by simp only;omega,hu⟩) (by rw[List.length_append];simp;omega);refine Cr (.tmp 109) (.tmp 119) 24 rfl rfl rfl zY ?_
    exact f.out _ X' ⟨g',c',⟨s,u⟩,rfl,xF⟩ ⟨zP,fun h=>absurd rfl h⟩ ⟨D.1.imp (fun B h=>⟨h.1.J yH (by simp;omega) (by simp;omega),h.2.1,h.2.2.1,fun h9=>h.2.2.2 (by unfold Bp at h9;rw[if_neg (by omega)]at h9;exact h9)⟩),D.2.1.trans zP,fun h=>by unfold Bp at h;simp at h⟩
  .intro L x X hL D M K f;simp only[Bc,Act.put,Zq,Zp,Zo];obtain⟨g',c',y,Q,hS⟩:=M 12 (by decide) (fun j=>by simp);have d:=M 13 (by decide) (fun j=>by simp);obtain⟨⟨B,zE,zT,zU,zJ⟩,zA,_⟩:=D;obtain⟨hB,hZ,_⟩:=HG.o X zA;have HE:Hid (DD w b a n c p 40 q (X.setCell (Zd q 5) (.slice (some ⟨g',0,none⟩) (R.length+1) c'))):=by
    have ht:=AS X q 5 (.slice (some ⟨g',0,none⟩) (R.length+1) c');refine⟨⟨_,_,_,_,_,_,_,_,_,_,hB.set 5 _,hS.J ht (by simp)⟩,Aa.same hZ (ht.block _ hZ.lt (by simp;omega)),⟨B,zE.J ht (by simp;omega) (by simp;omega),by omega,by omega⟩,CK (CK C.o.gr zA (by simp;omega)) ht (by simp;omega)⟩
   obtain⟨y5,f5⟩:=hB 5 _ rfl;have xL:=hB.lt;rw[Q,show x 13=.pointer (some ⟨q,5,none⟩)from d];clear M hS hB hZ HF HG C HQ;go_simp;refine f.out _ _ ?_;clear f K;go_wp2;go_meet;exact HE
 .by_cases hz:F.length=0
  .have zR:¬(0:Int)<(F.length:Int):=by omega
   clear hz hk;have HE:Hid (DD w b a n c p 40 q N):=C.o.same.more (by omega) (by omega);obtain⟨v4,_⟩:=C.o.box 4 _ rfl;clear C HQ;go_wp2;go_meet;exact HE
  have zR:(0:Int)<(F.length:Int):=by omega
  have yU:k<F.length:=by omega
  have yE:k<zs.length:=by rw[zS.o.2];exact yU
  have yO:=Zv yE;have yW:R.length<=100:=xU.o;have HC:Hid (∀X,Tn [b,S] N X->∃s:Zi,s.size<=maxLen/\X.cell? (Zd g (k *4))=some (.string s)):=fun X hX=>by have ho:=C.o.R.t.o;have vQ:=Ac ho (g:=g) rfl;rw[zS.o.2]at ho;have c0:=ho.cellAt (k *4+0) (by omega);rw[BZ Cb yO (show 0<4 by decide)]at c0;exact⟨zs[k].1.sum,(C.o.R.w.k _ (List.mem_map.2 ⟨_,List.getElem_mem yE,rfl⟩)).s,(World.cell?_of_block (a:=⟨g,k *4,none⟩) (hX.block _ vQ.2 (by simp;omega))).trans c0⟩
  obtain⟨v4,_⟩:=C.o.box 4 _ rfl;clear yO;go_upto_region 26 with fail;try rw[decide_eq_true (show 0<F.length by omega)]
  clear v4;refine BL [128,129,130,131,132,133,134,135,136,137,138,139,140,141,142,143,144] 17 rfl _ rfl (by kernel_rfl) (by kernel_rfl) (by kernel_rfl) (by kernel_rfl) (by kernel_rfl) (by decide) (by kernel_rfl) [] (by kernel_rfl) (fun L X=>(∃B,AA X b a n c B/\p1<=B/\B<=p1+2/\(L 4=false->B=p1))/\Tn [b,S] N X/\(L 15=false->N.grownBy X (some b))) (fun i X v=>match i with
   |0=>v=.pointer (some ⟨q,5,none⟩)
   |1=>v=.slice (some ⟨S,0,none⟩) R.length zI
   |2=>∃o,v=.slice (some ⟨o,0,none⟩) 2 2/\o≠b/\o≠S/\Aa X o [.string ⟨#[97]⟩,.string ⟨#[122]⟩]
   |3=>v=.pointer (some ⟨b,0,none⟩)
   |4=>∃j:Nat,v=Zg j/\j<2
   |5=>∃o j',v=.pointer (some ⟨o,j',none⟩)/\o≠b/\o≠S/\o<X.heap.size/\∃s:Zi,s.size<=3/\X.cell? (Zd o j')=some (.string s)
   |6=>∃s:Zi,v=.string s/\s.size<=3
   |7=>v=.pointer (some ⟨q,4,none⟩)
   |8=>v=.slice (some ⟨g,0,none⟩) F.length tc
   |9=>v=Zg k
   |10=>v=.pointer (some ⟨g,k *4,none⟩)
   |11=>v=.pointer (some ⟨g,k *4,none⟩)
   |12=>∃s:Zi,v=.string s/\s.size<=maxLen
   |13=>∃s u:Zi,v=.agg #[.string s,.string u]/\s.size<=3/\u.size<=maxLen
   |14=>∃o,v=.slice (some ⟨o,0,none⟩) 1 1/\o≠b/\o≠S/\∃s u:Zi,s.size<=3/\u.size<=maxLen/\Aa X o [.string s,.string u]
   |15=>∃g' c' y,v=.slice (some ⟨g',0,none⟩) (R.length+1) c'/\BN X (w.heap.size+2) q (.slice (some ⟨g,0,none⟩) F.length tc) (.slice (some ⟨g',0,none⟩) (R.length+1) c') (.slice (some ⟨gl,0,none⟩) U.length zH) zs (R++[y]) U
   |16=>v=.pointer (some ⟨q,5,none⟩)
   |_=>True) (fun j X Y=>Tn [b,S] X Y/\(j≠15->X.grownBy Y (some b))) ?_ ⟨⟨p1,C.o.rd.drew,by omega,by omega,fun _=>rfl⟩,Tn.of Ad.drew,fun _=>⟨rfl,rfl,rfl,Zx,fun _ _ _=>rfl⟩⟩ ?_ ?_
  .intro j i X Y v zX yD yJ hE M;rcases i with _|_|_|_|_|_|_|_|_|_|_|_|_|_|_|_|_|_<;>first|exact M|exact trivial|skip
   .obtain⟨o,e,G,h0,J⟩:=M;exact⟨o,e,G,h0,Aa.same J (hE.1.block _ J.lt (by simp;exact⟨G,h0⟩))⟩
   .obtain⟨o,j',e,G,h0,J,s,h3,h4⟩:=M;exact⟨o,j',e,G,h0,Zr J hE.1.size,s,h3,(World.cell?_of_block (a:=⟨o,j',none⟩) (hE.1.block o J (by simp;exact⟨G,h0⟩))).trans h4⟩
   .obtain⟨o,e,G,h0,s,u,hs,hu,J⟩:=M;exact⟨o,e,G,h0,s,u,hs,hu,Aa.same J (hE.1.block _ J.lt (by simp;exact⟨G,h0⟩))⟩
   .obtain⟨g',c',y,e,G⟩:=M;exact⟨g',c',y,e,G.J (Tn.grown (V:=[b]) (hE.2 (fun e=>zX e)) (by simp)) (by simp;omega)⟩
  .intro i o' L x X hi ho hL hD D I K f;obtain⟨b0,b1,b2,b3,b4,b5,b6⟩:=Aa.c7 (HG.o X D.2.1).1 0 1 2 3 4 5 6;have c9:=(HG.o X D.2.1).2.2;have hr:Tn [b,S] X X/\(i≠15->X.grownBy X (some b)):=⟨Tn.of Ad,fun _=>AJ _ _⟩
   have O:i≠4->i≠15->∀Y,Zz X Y->(∃B,AA Y b a n c B/\p1<=B/\B<=p1+2/\(Bp L i 4=false->B=p1))/\Tn [b,S] N Y/\(Bp L i 15=false->N.grownBy Y (some b)):=fun h6 h7 Y hY=>⟨D.1.imp (fun B h=>⟨h.1.below hY,h.2.1,h.2.2.1,fun h9=>h.2.2.2 (by unfold Bp at h9;rw[if_neg (Ne.symm h6)]at h9;exact h9)⟩),D.2.1.trans (Tn.of hY),fun h9=>Ap (D.2.2 (by unfold Bp at h9;rw[if_neg (Ne.symm h7)]at h9;exact h9)) (Ak _ hY)⟩
   rcases(show i=0\/i=1\/i=2\/i=3\/i=4\/i=5\/i=6\/i=7\/i=8\/i=9\/i=10\/i=11\/i=12\/i=13\/i=14\/i=15\/i=16 by omega)with rfl|rfl|rfl|rfl|rfl|rfl|rfl|rfl|rfl|rfl|rfl|rfl|rfl|rfl|rfl|rfl|rfl<;>cases ho<;>simp only[Bc,Act.put,Zq,Zp,Zo]at f |-
   all_goals try (go_simp;exact f.out _ X rfl hr (O (by omega) (by omega) X Ad))
   all_goals try (simp[EB,Region.binds]at I;simp only[I]at f |-;go_simp;exact f.out _ X rfl hr (O (by omega) (by omega) X Ad))
   .have Z:Below X.heap.size X (X.alloc (.cells #[.string ⟨#[97]⟩,.string ⟨#[122]⟩] 9)):=Zy;have yS:=D.2.1.size;go_simp;exact f.out _ _ ⟨X.heap.size,rfl,by omega,by omega,Aa.new X _ _⟩ ⟨Tn.of Z,fun _=>Ak _ Z⟩ (O (by omega) (by omega) _ Z)
   .have d:=I ⟨3,.data⟩ (by simp) (by rfl);rw[show x 3=.pointer (some ⟨b,0,none⟩)from d]at f |-;obtain⟨⟨B,zE,zT,zU,zJ⟩,zA,yW⟩:=D;have xC:=zJ hL;go_simp;refine(AR b a n c B 2 X zE (by omega) (by omega) (by omega) (by omega)).mono ?_;rintro e X' ⟨y,rfl,y0,y1,zN,zF⟩;have zP:Tn [b,S] X X':=Tn.grown zF (by simp)
    exact f.out _ X' ⟨y.toNat,by congr 1;omega,by omega⟩ ⟨zP,fun _=>zF⟩ ⟨⟨B+1,zN,by omega,by omega,fun h=>by unfold Bp at h;simp at h⟩,zA.trans zP,fun h=>Ap (yW (by unfold Bp at h;rw[if_neg (by omega)]at h;exact h)) zF⟩
   .obtain⟨o,Q,G,h0,J⟩:=I ⟨2,.data⟩ (by simp) (by rfl);obtain⟨j,e2,h3⟩:=I ⟨4,.data⟩ (by simp) (by rfl);rw[Q,e2]at f |-;obtain⟨s,hs,h4⟩:=PG J (by intro i hi;simp at hi;rcases(show i=0\/i=1\/i=2\/i=3 by omega)with rfl|rfl|rfl|rfl<;>first|exact⟨_,by decide,rfl⟩|omega) (j:=j) (by simp;omega);have h5:=J.lt;have h6:(j:Int)<2:=by omega
    clear J;go_simp;exact f.out _ X ⟨o,j,rfl,G,h0,h5,s,hs,h4⟩ hr (O (by omega) (by omega) X Ad)
   .obtain⟨o,j',Q,G,h0,J,s,hs,h3⟩:=I ⟨5,.data⟩ (by simp) (by rfl);rw[Q]at f |-;go_simp;exact f.out _ X ⟨s,rfl,hs⟩ hr (O (by omega) (by omega) X Ad)
   .have d:=I ⟨11,.data⟩ (by simp) (by rfl);rw[show x 11=.pointer (some ⟨g,k *4,none⟩)from d]at f |-;obtain⟨s,hs,c0⟩:=HC.o X D.2.1;go_simp;exact f.out _ X ⟨s,rfl,hs⟩ hr (O (by omega) (by omega) X Ad)
   .obtain⟨s,Q,hs⟩:=I ⟨6,.data⟩ (by simp) (by rfl);obtain⟨u,e2,hu⟩:=I ⟨12,.data⟩ (by simp) (by rfl);rw[Q,e2]at f |-;go_simp;exact f.out _ X ⟨s,u,rfl,hs,hu⟩ hr (O (by omega) (by omega) X Ad)
   .obtain⟨s,u,Q,hs,hu⟩:=I ⟨13,.data⟩ (by simp) (by rfl);rw[Q]at f |-;have Z:Below X.heap.size X (X.alloc (.cells #[.string s,.string u] 48)):=Zy;have yS:=D.2.1.size;go_simp;exact f.out _ _ ⟨X.heap.size,rfl,by omega,by omega,s,u,hs,hu,Aa.new X _ _⟩ ⟨Tn.of Z,fun _=>Ak _ Z⟩ (O (by omega) (by omega) _ Z)
   .have d:=I ⟨1,.data⟩ (by simp) (by rfl);obtain⟨o,Q,G,h0,s,u,hs,hu,J⟩:=I ⟨14,.data⟩ (by simp) (by rfl);rw[show x 1=.slice (some ⟨S,0,none⟩) R.length zI from d,Q]at f |-;have hS:=(HF.o X (D.2.2 hL)).2;have xZ:=D.2.1.size;obtain⟨g',c',X',zY,zM,yC,yT⟩:=TU X (w.heap.size+2) _ R ⟨s,u⟩ hS.p.o o J (by omega) (by omega) 24;have yP:X.grownBy X' (some S):=yC;have yH:Tn [S] X X':=Tn.grown yP (by simp)
    have zP:Tn [b,S] X X':=yH.mono (by simp);have xJ:(Value.slice (some ⟨g',0,none⟩) (R.length+1) c').ownBlock≠some q:=fun e=>by simp[Value.ownBlock]at yT e;rcases yT with h|h<;>omega
    have hm:(10:Nat)<=maxLen:=by unfold maxLen;omega
    have xF:=hS.pins yH ⟨zM,xJ⟩ (fun p hp=>by rcases List.mem_append.1 hp with h|h;exact .inl h;rw[List.mem_singleton.1 h];exact .inr ⟨by simp only;omega,hu⟩) (by rw[List.length_append];simp;omega);refine Cr (.tmp 129) (.tmp 142) 24 rfl rfl rfl zY ?_
    exact f.out _ X' ⟨g',c',⟨s,u⟩,rfl,xF⟩ ⟨zP,fun h=>absurd rfl h⟩ ⟨D.1.imp (fun B h=>⟨h.1.J yH (by simp;omega) (by simp;omega),h.2.1,h.2.2.1,fun h9=>h.2.2.2 (by unfold Bp at h9;rw[if_neg (by omega)]at h9;exact h9)⟩),D.2.1.trans zP,fun h=>by unfold Bp at h;simp at h⟩
  .intro L x X hL D M K f;simp only[Bc,Act.put,Zq,Zp,Zo];obtain⟨g',c',y,Q,hS⟩:=M 15 (by decide) (fun j=>by simp);have d:=M 16 (by decide) (fun j=>by simp);obtain⟨⟨B,zE,zT,zU,zJ⟩,zA,_⟩:=D;obtain⟨hB,hZ,_⟩:=HG.o X zA;have HE:Hid (DD w b a n c p 40 q (X.setCell (Zd q 5) (.slice (some ⟨g',0,none⟩) (R.length+1) c'))):=by
    have ht:=AS X q 5 (.slice (some ⟨g',0,none⟩) (R.length+1) c');refine⟨⟨_,_,_,_,_,_,_,_,_,_,hB.set 5 _,hS.J ht (by simp)⟩,Aa.same hZ (ht.block _ hZ.lt (by simp;omega)),⟨B,zE.J ht (by simp;omega) (by simp;omega),by omega,by omega⟩,CK (CK C.o.gr zA (by simp;omega)) ht (by simp;omega)⟩
   obtain⟨y5,f5⟩:=hB 5 _ rfl;have xL:=hB.lt;rw[Q,show x 16=.pointer (some ⟨q,5,none⟩)from d];clear M hS hB hZ HF HG C HQ;go_simp;refine f.out _ _ ?_;clear f K;go_wp2;go_meet;exact HE
 .by_cases hz:U.length=0
  .have zR:¬(0:Int)<(U.length:Int):=by omega
   clear hz;have HE:Hid (DD w b a n c p 40 q N):=C.o.same.more (by omega) (by omega);obtain⟨v4,_⟩:=C.o.box 6 _ rfl;clear C HQ;go_wp2;go_meet;exact HE
  have zR:(0:Int)<(U.length:Int):=by omega
  have xN:0<U.length:=by omega
  obtain⟨l0,lr,yV⟩:∃l0 lr,U=l0::lr:=by
   match U,hz with
   |[],hz=>exact absurd rfl hz
   |l0::lr,_=>exact⟨l0,lr,rfl⟩
  have yR:Hid (∀X,BN X (w.heap.size+2) q (.slice (some ⟨g,0,none⟩) F.length tc) (.slice (some ⟨S,0,none⟩) R.length zI) (.slice (some ⟨gl,0,none⟩) U.length zH) zs R U->BN X (w.heap.size+2) q (.slice (some ⟨g,0,none⟩) F.length tc) (.slice (some ⟨S,0,none⟩) R.length zI) (.slice (some ⟨gl,0,none⟩) U.length zH) zs R (l0::lr)):=fun X h=>by rw[yV]at h |-;exact h
  have HC:Hid (∀X,N.grownBy X (some b)->(∃u,X.cell? (Zd gl 2)=some u)/\X.frozen? ⟨gl,2,none⟩=false/\gl<X.heap.size):=fun X hX=>by have ho:=(HF.o X hX).2.l.o;exact⟨Oi ho 2 (by omega),Je ho _,(Ac ho (g:=gl) rfl).2⟩
  have yB:=(Ac C.o.R.l.o (g:=gl) rfl).1;have yK:gl≠q:=fun e=>C.o.R.l.q (by rw[e];rfl);obtain⟨v4,_⟩:=C.o.box 6 _ rfl;clear yV;go_upto_region 29 with fail;try rw[decide_eq_true (show 0<U.length by omega)]
  clear v4;refine BL [151,152,153,154,155,156,157,158,159,160,161,162] 12 rfl _ rfl (by kernel_rfl) (by kernel_rfl) (by kernel_rfl) (by kernel_rfl) (by kernel_rfl) (by decide) (by kernel_rfl) [] (by kernel_rfl) (fun L X=>(∃B,AA X b a n c B/\p1<=B/\B<=p1+2/\(L 6=false->B=p1))/\N.grownBy X (some b)) (fun i X v=>match i with
   |0=>v=.pointer (some ⟨q,6,none⟩)
   |1=>v=.slice (some ⟨gl,0,none⟩) U.length zH
   |2=>v=.pointer (some ⟨q,1,none⟩)
   |3=>v=Zg now
   |4=>∃o,v=.slice (some ⟨o,0,none⟩) 4 4/\o≠b/\Aa X o [Ze,Zg 1,Zg 100000,Zg 100001]
   |5=>v=.pointer (some ⟨b,0,none⟩)
   |6=>∃j:Nat,v=Zg j/\j<4
   |7=>∃o j',v=.pointer (some ⟨o,j',none⟩)/\o≠b/\o<X.heap.size/\∃y:Int,X.cell? (Zd o j')=some (Zg y)
   |8=>∃y:Int,v=Zg y
   |9=>∃y:Int,v=Zg y
   |10=>v=.pointer (some ⟨gl,0,none⟩)
   |11=>v=.pointer (some ⟨gl,2,none⟩)
   |_=>True) (fun _ X Y=>X.grownBy Y (some b)) ?_ ⟨⟨p1,C.o.rd.drew,by omega,by omega,fun _=>rfl⟩,⟨rfl,rfl,rfl,Zx,fun _ _ _=>rfl⟩⟩ ?_ ?_
  .intro j i X Y v zX yD yJ hE M;rcases i with _|_|_|_|_|_|_|_|_|_|_|_|_<;>first|exact M|exact trivial|skip
   .obtain⟨o,e,G,J⟩:=M;exact⟨o,e,G,J.au hE (Ne.symm G)⟩
   .obtain⟨o,j',e,G,J,h3⟩:=M;obtain⟨y,h4⟩:=h3;exact⟨o,j',e,G,Zr J hE.size,y,(World.cell?_of_block (a:=⟨o,j',none⟩) (hE.block o J (fun e=>G (by injection e)))).trans h4⟩
  .intro i o' L x X hi ho hL hD D I K f;obtain⟨b0,b1,b2,b3,b4,b5,b6⟩:=Aa.c7 (HF.o X D.2).1 0 1 2 3 4 5 6;have hr:X.grownBy X (some b):=AJ _ _
   have O:i≠6->∀Y,Zz X Y->(∃B,AA Y b a n c B/\p1<=B/\B<=p1+2/\(Bp L i 6=false->B=p1))/\N.grownBy Y (some b):=fun h6 Y hY=>⟨D.1.imp (fun B h=>⟨h.1.below hY,h.2.1,h.2.2.1,fun h9=>h.2.2.2 (by unfold Bp at h9;rw[if_neg (Ne.symm h6)]at h9;exact h9)⟩),Ap D.2 (Ak _ hY)⟩
   rcases(show i=0\/i=1\/i=2\/i=3\/i=4\/i=5\/i=6\/i=7\/i=8\/i=9\/i=10\/i=11 by omega)with rfl|rfl|rfl|rfl|rfl|rfl|rfl|rfl|rfl|rfl|rfl|rfl<;>cases ho<;>simp only[Bc,Act.put,Zq,Zp,Zo]at f |-
   all_goals try (go_simp;exact f.out _ X rfl hr (O (by omega) X Ad))
   all_goals try (simp[EB,Region.binds]at I;simp only[I]at f |-;go_simp;exact f.out _ X rfl hr (O (by omega) X Ad))
   .have Z:Below X.heap.size X (X.alloc (.cells #[Ze,Zg 1,Zg 100000,Zg 100001] 3)):=Zy;have yS:=D.2.size;go_simp;exact f.out _ _ ⟨X.heap.size,rfl,by omega,Aa.new X _ _⟩ (Ak _ Z) (O (by omega) _ Z)
   .have d:=I ⟨5,.data⟩ (by simp) (by rfl);rw[show x 5=.pointer (some ⟨b,0,none⟩)from d]at f |-;obtain⟨⟨B,zE,zT,zU,zJ⟩,zA⟩:=D;have xC:=zJ hL;go_simp;refine(AR b a n c B 4 X zE (by omega) (by omega) (by omega) (by omega)).mono ?_;rintro e X' ⟨y,rfl,y0,y1,zN,zF⟩;exact f.out _ X' ⟨y.toNat,by congr 1;omega,by omega⟩ zF ⟨⟨B+1,zN,by omega,by omega,fun h=>by unfold Bp at h;simp at h⟩,Ap zA zF⟩
   .obtain⟨o,Q,G,J⟩:=I ⟨4,.data⟩ (by simp) (by rfl);obtain⟨j,e2,h3⟩:=I ⟨6,.data⟩ (by simp) (by rfl);rw[Q,e2]at f |-;obtain⟨y,h4⟩:=Hp J (by simp) (j:=j) (by simp;omega);have h5:=J.lt;have h6:(j:Int)<4:=by omega
    clear J;go_simp;exact f.out _ X ⟨o,j,rfl,G,h5,y,h4⟩ hr (O (by omega) X Ad)
   .obtain⟨o,j',Q,G,J,y,h3⟩:=I ⟨7,.data⟩ (by simp) (by rfl);rw[Q]at f |-;go_simp;exact f.out _ X ⟨y,rfl⟩ hr (O (by omega) X Ad)
   .have d3:=I ⟨3,.data⟩ (by simp) (by rfl);obtain⟨y,Q⟩:=I ⟨8,.data⟩ (by simp) (by rfl);rw[show x 3=Zg now from d3,Q]at f |-;go_simp;exact f.out _ X ⟨_,rfl⟩ hr (O (by omega) X Ad)
  .intro L x X hL D M K f;simp only[Bc,Act.put,Zq,Zp,Zo];obtain⟨y,Q⟩:=M 9 (by decide) (fun j=>by simp);have d:=M 11 (by decide) (fun j=>by simp);obtain⟨⟨B,zE,zT,zU,zJ⟩,zA⟩:=D;obtain⟨⟨u,c1⟩,f1,xI⟩:=HC.o X zA;have hI:=C.o.go zA zE zB;have HE:Hid (DD w b a n c p 40 q (X.setCell (Zd gl 2) (Zg y))):=(hI.rows zB (AS X gl _ _) yB yK ((yR.o X hI.R).iq y).1).more (by omega) (by omega)
   rw[Q,show x 11=.pointer (some ⟨gl,2,none⟩)from d];clear M hI HF HC C yR;go_simp;refine f.out _ _ ?_;clear f K;go_wp2;go_meet;exact HE
 .by_cases hz:U.length=0
  .have zR:¬(0:Int)<(U.length:Int):=by omega
   clear hz;have HE:Hid (DD w b a n c p 40 q N):=C.o.same.more (by omega) (by omega);obtain⟨v4,_⟩:=C.o.box 6 _ rfl;clear C HQ;go_wp2;go_meet;exact HE
  have zR:(0:Int)<(U.length:Int):=by omega
  have xN:0<U.length:=by omega
  obtain⟨l0,lr,yV⟩:∃l0 lr,U=l0::lr:=by
   match U,hz with
   |[],hz=>exact absurd rfl hz
   |l0::lr,_=>exact⟨l0,lr,rfl⟩
  have yR:Hid (∀X,BN X (w.heap.size+2) q (.slice (some ⟨g,0,none⟩) F.length tc) (.slice (some ⟨S,0,none⟩) R.length zI) (.slice (some ⟨gl,0,none⟩) U.length zH) zs R U->BN X (w.heap.size+2) q (.slice (some ⟨g,0,none⟩) F.length tc) (.slice (some ⟨S,0,none⟩) R.length zI) (.slice (some ⟨gl,0,none⟩) U.length zH) zs R (l0::lr)):=fun X h=>by rw[yV]at h |-;exact h
  have HC:Hid (∀X,N.grownBy X (some b)->(∃u,X.cell? (Zd gl 0)=some u)/\X.frozen? ⟨gl,0,none⟩=false/\gl<X.heap.size):=fun X hX=>by have ho:=(HF.o X hX).2.l.o;exact⟨Oi ho 0 (by omega),Je ho _,(Ac ho (g:=gl) rfl).2⟩
  have yB:=(Ac C.o.R.l.o (g:=gl) rfl).1;have yK:gl≠q:=fun e=>C.o.R.l.q (by rw[e];rfl);obtain⟨v4,_⟩:=C.o.box 6 _ rfl;clear yV;go_upto_region 32 with fail;try rw[decide_eq_true (show 0<U.length by omega)]
  clear v4;refine BL [169,170,171,172,173,174,175,176,177,178,179,180,181,182] 14 rfl _ rfl (by kernel_rfl) (by kernel_rfl) (by kernel_rfl) (by kernel_rfl) (by kernel_rfl) (by decide) (by kernel_rfl) [] (by kernel_rfl) (fun L X=>(∃B,AA X b a n c B/\p1<=B/\B<=p1+2/\(L 9=false->B=p1))/\N.grownBy X (some b)) (fun i X v=>match i with
   |0=>v=.pointer (some ⟨q,6,none⟩)
   |1=>v=.slice (some ⟨gl,0,none⟩) U.length zH
   |2=>v=.pointer (some ⟨q,2,none⟩)
   |3=>v=Zg E
   |4=>v=.pointer (some ⟨q,2,none⟩)
   |5=>v=Zg E
   |6=>∃y:Int,v=Zg y
   |7=>∃o,v=.slice (some ⟨o,0,none⟩) 3 3/\o≠b/\∃y,Aa X o [Ze,Zg E,Zg y]
   |8=>v=.pointer (some ⟨b,0,none⟩)
   |9=>∃j:Nat,v=Zg j/\j<3
   |10=>∃o j',v=.pointer (some ⟨o,j',none⟩)/\o≠b/\o<X.heap.size/\∃y:Int,X.cell? (Zd o j')=some (Zg y)
   |11=>∃y:Int,v=Zg y
   |12=>v=.pointer (some ⟨gl,0,none⟩)
   |13=>v=.pointer (some ⟨gl,0,none⟩)
   |_=>True) (fun _ X Y=>X.grownBy Y (some b)) ?_ ⟨⟨p1,C.o.rd.drew,by omega,by omega,fun _=>rfl⟩,⟨rfl,rfl,rfl,Zx,fun _ _ _=>rfl⟩⟩ ?_ ?_
  .intro j i X Y v zX yD yJ hE M;rcases i with _|_|_|_|_|_|_|_|_|_|_|_|_|_|_<;>first|exact M|exact trivial|skip
   .obtain⟨o,e,G,y,J⟩:=M;exact⟨o,e,G,y,J.au hE (Ne.symm G)⟩
   .obtain⟨o,j',e,G,J,h3⟩:=M;obtain⟨y,h4⟩:=h3;exact⟨o,j',e,G,Zr J hE.size,y,(World.cell?_of_block (a:=⟨o,j',none⟩) (hE.block o J (fun e=>G (by injection e)))).trans h4⟩
  .intro i o' L x X hi ho hL hD D I K f;obtain⟨b0,b1,b2,b3,b4,b5,b6⟩:=Aa.c7 (HF.o X D.2).1 0 1 2 3 4 5 6;have hr:X.grownBy X (some b):=AJ _ _
   have O:i≠9->∀Y,Zz X Y->(∃B,AA Y b a n c B/\p1<=B/\B<=p1+2/\(Bp L i 9=false->B=p1))/\N.grownBy Y (some b):=fun h6 Y hY=>⟨D.1.imp (fun B h=>⟨h.1.below hY,h.2.1,h.2.2.1,fun h9=>h.2.2.2 (by unfold Bp at h9;rw[if_neg (Ne.symm h6)]at h9;exact h9)⟩),Ap D.2 (Ak _ hY)⟩
   rcases(show i=0\/i=1\/i=2\/i=3\/i=4\/i=5\/i=6\/i=7\/i=8\/i=9\/i=10\/i=11\/i=12\/i=13 by omega)with rfl|rfl|rfl|rfl|rfl|rfl|rfl|rfl|rfl|rfl|rfl|rfl|rfl|rfl<;>cases ho<;>simp only[Bc,Act.put,Zq,Zp,Zo]at f |-
   all_goals try (go_simp;exact f.out _ X rfl hr (O (by omega) X Ad))
   all_goals try (simp[EB,Region.binds]at I;simp only[I]at f |-;go_simp;exact f.out _ X rfl hr (O (by omega) X Ad))
   .have d:=I ⟨5,.data⟩ (by simp) (by rfl);rw[show x 5=Zg E from d]at f |-;go_simp;exact f.out _ X ⟨_,rfl⟩ hr (O (by omega) X Ad)
   .have d3:=I ⟨3,.data⟩ (by simp) (by rfl);obtain⟨y,Q⟩:=I ⟨6,.data⟩ (by simp) (by rfl);rw[show x 3=Zg E from d3,Q]at f |-;have Z:Below X.heap.size X (X.alloc (.cells #[Ze,Zg E,Zg y] 3)):=Zy;have yS:=D.2.size;go_simp;exact f.out _ _ ⟨X.heap.size,rfl,by omega,y,Aa.new X _ _⟩ (Ak _ Z) (O (by omega) _ Z)
   .have d:=I ⟨8,.data⟩ (by simp) (by rfl);rw[show x 8=.pointer (some ⟨b,0,none⟩)from d]at f |-;obtain⟨⟨B,zE,zT,zU,zJ⟩,zA⟩:=D;have xC:=zJ hL;go_simp;refine(AR b a n c B 3 X zE (by omega) (by omega) (by omega) (by omega)).mono ?_;rintro e X' ⟨y,rfl,y0,y1,zN,zF⟩;exact f.out _ X' ⟨y.toNat,by congr 1;omega,by omega⟩ zF ⟨⟨B+1,zN,by omega,by omega,fun h=>by unfold Bp at h;simp at h⟩,Ap zA zF⟩
   .obtain⟨o,Q,G,y',J⟩:=I ⟨7,.data⟩ (by simp) (by rfl);obtain⟨j,e2,h3⟩:=I ⟨9,.data⟩ (by simp) (by rfl);rw[Q,e2]at f |-;obtain⟨y,h4⟩:=Hp J (by simp) (j:=j) (by simp;omega);have h5:=J.lt;have h6:(j:Int)<3:=by omega
    clear J;go_simp;exact f.out _ X ⟨o,j,rfl,G,h5,y,h4⟩ hr (O (by omega) X Ad)
   .obtain⟨o,j',Q,G,J,y,h3⟩:=I ⟨10,.data⟩ (by simp) (by rfl);rw[Q]at f |-;go_simp;exact f.out _ X ⟨y,rfl⟩ hr (O (by omega) X Ad)
  .intro L x X hL D M K f;simp only[Bc,Act.put,Zq,Zp,Zo];obtain⟨y,Q⟩:=M 11 (by decide) (fun j=>by simp);have d:=M 13 (by decide) (fun j=>by simp);obtain⟨⟨B,zE,zT,zU,zJ⟩,zA⟩:=D;obtain⟨⟨u,c1⟩,f1,xI⟩:=HC.o X zA;have hI:=C.o.go zA zE zB;have HE:Hid (DD w b a n c p 40 q (X.setCell (Zd gl 0) (Zg y))):=(hI.rows zB (AS X gl _ _) yB yK ((yR.o X hI.R).iq y).2).more (by omega) (by omega)
   rw[Q,show x 13=.pointer (some ⟨gl,0,none⟩)from d];clear M hI HF HC C yR;go_simp;refine f.out _ _ ?_;clear f K;go_wp2;go_meet;exact HE
 .go_wp2_with fail;refine(AR b a n c p1 2 N C.o.rd (by omega) (by omega) (by omega) (by omega)).mono ?_;rintro e X3 ⟨x,rfl,x0,x1,zK,zG⟩;have zC:Hid _:=C.o.go zG zK zB;go_wp2_with fail;refine(AR b a n c (p1+1) 2 X3 zC.o.rd (by omega) (by omega) (by omega) (by omega)).mono ?_;rintro e X4 ⟨y,rfl,y0,y1,vE,vA⟩;have yM:Hid _:=zC.o.go vA vE zB;obtain⟨j,rfl⟩:∃j:Nat,x=j:=⟨x.toNat,by omega⟩
  have HM:Hid _:=Oe (600+j) (y==0) X4 (by omega);have vC:((600+j:Nat):Int)=600+(j:Int):=by omega
  rw[vC]at HM;clear zK vE zG vA C zC HQ vC;go_wp2_with fail;refine HM.Am ?_;clear HM;rintro e X5 hM;obtain⟨ta,tm,xO,rfl,hS,yI⟩:=hM.ik (q:=0) (by omega) (by omega);have tL:=yM.o.gr.size;have tN:=yM.o.z.lt;have HS:Hid _:=hS;have HR:Hid ((∃B,AA X5 b a n c B/\p<=B/\B<=p+40)/\w.grownBy X5 (some b)):=⟨⟨_,yM.o.rd.below yI,by omega,by omega⟩,Ap yM.o.gr (Ak _ yI)⟩
  obtain⟨⟨y0,f0⟩,⟨y1,f1⟩,⟨y2,f2⟩,⟨y3,f3⟩,⟨y4,f4⟩,⟨y5,f5⟩,y6,f6⟩:=Gj (Aa.below (v:=Ze) yM.o.z yI);clear hS yI hM yM;go_wp2;refine bodyPost_ret (v:=.agg #[Zg 8,Ze,Ze,Zg ((600+j:Nat):Int),.slice ta xO.length tm,Zb,Zb]) (by simp[results,results30,go_sem,y0,y1,y2,y3,y4,y5,y6]) rfl (HS.o.fin (r:=w.heap.size+1) HR.o.1 HR.o.2 zB ?_ (by omega) (by omega))
  repeat refine Tn.trans ?_ (Tn.set _ _ _ _ (by simp))
  exact Tn.of Ad
end Go.Proofs.YtcfjcdpkpiidkaaGreat
