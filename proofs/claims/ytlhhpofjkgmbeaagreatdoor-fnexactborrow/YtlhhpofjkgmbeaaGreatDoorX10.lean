import Derived.Test.YtlhhpofjkgmbeaaGreatDoorX09
set_option maxRecDepth 100000
set_option maxHeartbeats 16000000
namespace Go.Proofs.YtlhhpofjkgmbeaaGreatDoor
open Go.ChangeShapes Go.WideShapes Go.ChangeAt Go.RowKit _root_.Go.Proofs.Tryz
def Bf(text:Zi)(refs:Zl)(wd:Int):Zi:=Ez (AH text refs wd).data.toList wd.toNat
theorem Pe(a:Int)(m n:Nat)(f:Lit->Option Value)(h:List Kd)(W:Zh)(B:Nat)(s:Zi)(w:Zh)(l:AV w 190 m n f)(p:Holds W B a h f)(g:(s.size:Int)=a):
 (¬Ax h s/\Calls prog 182 #[.agg #[Zg a,.map (some m)],.string s] w fun e j=>e=.returned (.tuple #[.agg #[Zd,Zf,Zd,Zc],.bool false])/\Zz w j)∨
 ∃x c i,x∈h/\x.sum=s/\Ad W B c x.refs/\Calls prog 182 #[.agg #[Zg a,.map (some m)],.string s] w fun e j=>e=.returned (.tuple #[.agg #[.string x.sum,Zg x.born,.string x.text,.slice c x.refs.length i],.bool true])/\Zz w j:=by
 rcases p s g with⟨b,d⟩|⟨x,c,i,b,d,k,o⟩
 ·exact .inl ⟨d,Hf a m n f s w l g _ _ _ _ _ ⟨_,_,_,rfl⟩ (by rw[b];rfl) (by rw[b];rfl)⟩
 ·exact .inr ⟨x,c,i,b,d,o,Hf a m n f s w l g _ _ _ _ _ ⟨_,_,_,rfl⟩ (by rw[k];rfl) (by rw[k];rfl)⟩
def ZB(base d m:Nat)(O P L:Value)(wd now given ae:Int)(ks:List Kd)(ps:List Pd)(ls:List Ld)(text:Zi)(refs:Zl)(w:Zh)(e:Ending)(w':Zh):Prop:=
 ((¬∀r∈refs,Ax ks r)/\e=.panicked [{v:=ay 2 ⟨#[]⟩ ⟨#[]⟩,recovered:=false}]/\Zz w w')∨
 ((∀r∈refs,Ax ks r)/\(
   (∃k∈ks,k.sum=Bf text refs wd/\AH k.text k.refs wd=AH text refs wd/\e=.returned (.string (Bf text refs wd))/\Zz w w')∨
   (∃k∈ks,k.sum=Bf text refs wd/\AH k.text k.refs wd≠AH text refs wd/\e=.panicked [{v:=ay 3 (AH k.text k.refs wd) (AH text refs wd),recovered:=false}]/\Zz w w')∨
   (¬Ax ks (Bf text refs wd)/\(ks.length=600∨ae=1000000000)/\e=.panicked [{v:=ay 4 ⟨#[]⟩ ⟨#[]⟩,recovered:=false}]/\Zz w w')∨
   (¬Ax ks (Bf text refs wd)/\ks.length<600/\ae<1000000000/\e=.returned (.string (Bf text refs wd))/\(∃O',DU w' base d m O' P L wd now given (ae+1) (Dz ks ⟨Bf text refs wd,ae+1,text,refs⟩) ps ls/\(O'.ownBlock=O.ownBlock∨∃g,O'.ownBlock=some g/\w.heap.size<=g))/\Tn (d::m::O.ownBlock.toList) w w')))
theorem Wu(base d m:Nat)(O P L:Value)(a s given ae:Int)(c:List Kd)(G:List Pd)(F:List Ld)(text:Zi)(refs:Zl)(y:Zk)(V:Nat)(w:Zh)(h:DU w base d m O P L a s given ae c G F)(yC:Fa a c)(h1:1<=a)(yF:∀k∈c,k.text.size<=maxLen)(yE:((Bf text refs a).size:Int)=a)(yW:text.size<=maxLen)(xE:refs.length<=1000)(yU:0<=ae)(xB:ae<=1000000000)(hr:De w base (vB d m O P L) y refs):
 Calls prog 173 #[Yz d,.agg #[.string text,.slice y refs.length V]] w (ZB base d m O P L a s given ae c G F text refs w):=by
 obtain⟨W,hW⟩:∃W,W=w.alloc (.cells #[.string text,.slice y refs.length V] 58):=⟨_,rfl⟩;have bW:=(AG hW).1;have xF:=(AG hW).2.1;have x0:=(AG hW).2.2;have HW:=Yx hW;have HD:Hid (∀X,Zz W X->DU X base d m O P L a s given ae c G F/\De X base (vB d m O P L) y refs/\Aa X w.heap.size [.string text,.slice y refs.length V]/\Zz w X):=fun X hX=>by have E:=bW.trans (hX.mono (by omega));exact⟨h.below E,hr.move (U:=[]) (Tn.of E) (by simp) (fun b E=> .inl E),Aa.below x0 hX,E⟩
 have u:=Yx yC;have yP:=Yx yF;have de:=h.lo;clear hW h hr bW yC yF;obtain⟨Z,zA⟩:=Aa.c2 x0 0 1;go_enter func173,ntmps173;go_upto_region 1 with fail;rw[←HW.o];clear HW;go_wp2
 go_loopw [15] (fun i wr=>∃(k:Nat),k<=refs.length/\i=Zg k/\Hid ((∀r∈refs.take k,Ax c r)/\Zz W wr)) (fun i _=>refs.length -(intOf i).toNat)
 case atStart=>exact⟨0,Nat.zero_le _,rfl,⟨fun r hr=>by simp at hr,Below.refl _ _⟩⟩
 case round=>
  clear Z zA x0;obtain⟨k,hk,rfl,D⟩:=hrel;obtain⟨Q,R,xr,zZ⟩:=HD.o wr D.o.2;have zM:=Yx Q;have zJ:=Yx zZ;obtain⟨Z,zA⟩:=Aa.c2 xr 0 1;by_cases hlt:k<refs.length
  ·obtain⟨b,xG,ha,xC,hc⟩:=R.row.at hlt;subst ha;have HG:=Yx (Zv hlt);have c0:=hc k _ HG.o;have yQ:=Yx (Zu hlt);clear hc Q R;generalize refs[k]=r at *
   by_cases hth:Ax c r
   ·have zR:=Yx (Em base d m O P L a s given ae c G F r wr zM.o.dr u.o.sz hth);have zC:=Yx hth;clear hth;go_wp2_with fail;refine Calls.mono zR.o ?_;rintro e w2 ⟨rfl,q⟩;have B:=Yx (D.o.2.trans (q.mono D.o.2.size));clear zR q c0 Z zA xr;go_wp2;refine⟨⟨k+1,by omega,by go_num,⟨?_,B.o⟩⟩,by simp[intOf];omega⟩;rw[yQ.o];intro r' v;rcases List.mem_append.1 v with v|v
    ·exact D.o.1 r' v
    ·simp at v;rw[v];exact zC.o
   ·have yM:=Yx (JC base d m O P L a s given ae c G F r wr zM.o.dr u.o.sz hth);have zC:=Yx hth;clear hth;go_wp2_with fail;refine Calls.mono yM.o ?_;rintro e w2 ⟨rfl,q⟩;go_wp2;exact⟨rfl,.inl ⟨fun f=>zC.o (f r (Zs HG.o)),rfl,zJ.o.trans (q.mono zJ.o.size)⟩⟩
  ·obtain rfl:k=refs.length:=by omega
   have f:=D.o.1;rw[Zt (Zx)]at f;have n:=Yx f;obtain⟨c0,_⟩:=Q.dr.box 0 _ rfl;have zI:=Yx D.o.2;clear f D;have yY:=zI.o.size;have D0:Below wr.heap.size wr wr.drew:=(Below.refl _ _).drew;have HF:=Yx (LS text y V refs a wr.drew (Ad.af R.row D0) (by omega) yW);clear Q R;go_upto_region 6 with fail;go_region_with (go_at_call 146;refine Calls.mono HF.o ?_;rintro e w2 ⟨rfl,q⟩)
   all_goals
    have B:=Yx (zI.o.trans ((D0.trans q).mono yY));obtain⟨zS,yT,yZ,zG⟩:=HD.o w2 B.o;obtain⟨yS,_⟩:=zS.dr.box 0 _ rfl;have HS:=Yx (Ui (AH text refs a) a w2 (IW _ _ _) h1 u.o.w8);have yO:Hid (Ez (AH text refs a).data.toList a.toNat=Bf text refs a):=rfl;rw[yO.o]at HS;generalize hFF:AH text refs a=FF at *
    generalize hSS:Bf text refs a=SS at *
    clear q c0 Z zA xr HF D0 zZ;go_wp2_with fail;refine Calls.mono HS.o ?_;rintro e z ⟨rfl,zX⟩;have yJ:=Yx (B.o.trans (zX.mono B.o.size));obtain⟨N,zW,yI,H⟩:=HD.o z yJ.o;obtain⟨d0,d1⟩:=Aa.c2 N.dr.box 0 1;have zK:=Yx N;have yN:=Yx zW;have yR:=Yx yI;have o:=Yx H;obtain⟨n3,f3,xD,zF,zE⟩:=N.dr.map;clear zX HS yS zS yT yZ zG zW yI H N
    rcases Pe a m n3 f3 c z z.heap.size SS z zF zE.holds yE with⟨yB,C⟩|⟨x,xa,xc,T,yH,yG,C⟩
    ·have J:=Yx C;have zP:=Yx yB;clear C yB zF zE;go_wp2_with fail;refine Calls.mono J.o ?_;rintro e w4 ⟨rfl,l⟩;obtain⟨Y,t⟩:∃Y,Y=w4.alloc (.cells #[Zd,Zf,Zd,Zc] 131):=⟨_,rfl⟩;have M:=(AG t).1;have j:Hid (Zz z Y):=l.trans (M.mono l.size);have HY:=Yx t;have A:=zK.o.below j.o;have yX:=Aa.below yR.o j.o;obtain⟨y0,y1⟩:=Aa.c2 yX 0 1;have p:=Yx (o.o.trans (j.o.mono o.o.size))
     by_cases hfull:c.length=600∨ae=1000000000
     ·have HL:=Yx (UC base d m O P L a s given ae c G F SS text y refs.length V Y A hfull);have yL:=Yx hfull;clear l t M A yX hfull d0 d1 J;go_upto_region 10 with fail;rw[←HY.o];go_wp2_with fail;refine Calls.mono HL.o ?_;rintro e w5 ⟨rfl,S⟩;go_wp2;exact⟨rfl,.inr ⟨n.o,.inr (.inr (.inl ⟨hSS▸zP.o,yL.o,rfl,p.o.trans (S.mono p.o.size)⟩))⟩⟩
     ·have yA:c.length<600:=by have:=u.o.len;omega
      have zY:ae<1000000000:=by omega
      have HL:=Yx (Wt base d m O P L a s given ae c G F SS text refs y V Y A u.o yE yA yU zY (De.move yN.o (U:=[]) (Tn.of j.o) (by simp) (fun b E=> .inl E)));clear l t M A yX hfull d0 d1 J;go_upto_region 10 with fail;rw[←HY.o];go_wp2_with fail;refine Calls.mono HL.o ?_;rintro e w5 ⟨rfl,⟨O',zT,zU⟩,zV⟩;have HQ:=Yx (Zn zT (Zn zU zV));clear zT zU zV HL;go_wp2;go_ret;subst hSS
      refine .inr ⟨n.o,.inr (.inr (.inr ⟨zP.o,yA,zY,rfl,⟨O',HQ.o.1,?_⟩,(Tn.of p.o).trans HQ.o.2.2⟩))⟩;rcases HQ.o.2.1 with e|⟨g,e,hg⟩
      ·exact .inl e
      ·exact .inr ⟨g,e,Zm p.o.size hg⟩
    ·have J:=Yx C;have K:Hid (x∈c/\x.sum=SS):=⟨T,yH⟩;clear C zF zE;go_wp2_with fail;refine Calls.mono J.o ?_;rintro e w4 ⟨rfl,l⟩;obtain⟨Y,t⟩:∃Y,Y=w4.alloc (.cells #[.string x.sum,Zg x.born,.string x.text,.slice xa x.refs.length xc] 131):=⟨_,rfl⟩;have M:=(AG t).1;have j:Hid (Zz z Y):=l.trans (M.mono l.size);have HY:=Yx t;have A:=zK.o.below j.o;have yK:=(AG t).2.2;obtain⟨y2,y3⟩:=Aa.c2 yK 2 3
     obtain⟨e0,_⟩:=A.dr.box 0 _ rfl;have p:=Yx (o.o.trans (j.o.mono o.o.size));have DY:Below Y.heap.size Y Y.drew:=(Below.refl _ _).drew;have xA:=A.lo;have I:=Ad.af yG (j.o.trans (DY.mono j.o.size));have zN:=Yx (LS x.text xa xc x.refs a Y.drew I (by have:=(u.o.refs x T).1;omega) (yP.o x T));clear l t M A yK d0 d1 J yG I T yH;go_upto_region 12 with fail;rw[←HY.o]
     go_region_with (go_at_call 146;refine Calls.mono zN.o ?_;rintro e w5 ⟨rfl,S⟩)
     all_goals
      have zH:=Yx (p.o.trans ((DY.trans S).mono p.o.size));clear S y2 y3 e0 zN;by_cases hsame:AH x.text x.refs a=FF
      ·have hq:(FF.toList !=FF.toList)=false:=by simp
       rw[hsame];have zB:=Yx hsame;clear hsame;go_wp2;go_ret;subst hSS;exact .inr ⟨n.o,.inl ⟨x,K.o.1,K.o.2,zB.o.trans hFF.symm,rfl,zH.o⟩⟩
      ·have zB:=Yx hsame;have yV:=BP hsame;have hq:((AH x.text x.refs a).toList !=FF.toList)=true:=by simp[bne,yV]
       clear hsame;generalize hGG:AH x.text x.refs a=GG at *
       have zO:=Yx hGG;clear hGG;go_wp2;subst hSS;refine⟨rfl,.inr ⟨n.o,.inr (.inl ⟨x,K.o.1,K.o.2,?_,?_,zH.o⟩)⟩⟩
       ·rw[zO.o,hFF];exact zB.o
       ·rw[zO.o,hFF];rfl
def Ci(wd ae:Int)(ks:List Kd)(text:Zi)(refs:Zl)(ks1:List Kd)(ah:Int):Prop:=
 (∃k∈ks,k.sum=Bf text refs wd/\AH k.text k.refs wd=AH text refs wd/\ks1=ks/\ah=ae)∨
 (¬Ax ks (Bf text refs wd)/\ks.length<600/\ae<1000000000/\ks1=Dz ks ⟨Bf text refs wd,ae+1,text,refs⟩/\ah=ae+1)
def FU(wd given ae:Int)(ks:List Kd)(ls:List Ld)(text:Zi)(refs:Zl)(c:Int)(a b:Zi):Prop:=
 ((¬∀r∈refs,Ax ks r)/\c=2/\a=⟨#[]⟩/\b=⟨#[]⟩)∨
 ((∀r∈refs,Ax ks r)/\(
   (∃k∈ks,k.sum=Bf text refs wd/\AH k.text k.refs wd≠AH text refs wd/\c=3/\a=AH k.text k.refs wd/\b=AH text refs wd)∨
   (¬Ax ks (Bf text refs wd)/\(ks.length=600∨ae=1000000000)/\c=4/\a=⟨#[]⟩/\b=⟨#[]⟩)∨
   ((∃ks1 ah,Ci wd ae ks text refs ks1 ah)/\(ls.length=200∨given=1000000000)/\c=4/\a=⟨#[]⟩/\b=⟨#[]⟩)))
theorem Ci.there{b ae:Int}{e:List Kd}{text:Zi}{refs:Zl}{a:List Kd}{ah:Int}(h:Ci b ae e text refs a ah):Ax a (Bf text refs b):=by
 rcases h with⟨k,c,d,_,rfl,_⟩|⟨_,_,_,rfl,_⟩
 ·exact⟨k,c,d⟩
 ·exact⟨⟨Bf text refs b,ae+1,text,refs⟩,GR.2 (by simp),rfl⟩
theorem Ci.sz{b ae:Int}{e:List Kd}{text:Zi}{refs:Zl}{d:List Kd}{ah:Int}(h:Ci b ae e text refs d ah)(c:∀k∈e,(k.sum.size:Int)=b)(f:((Bf text refs b).size:Int)=b):∀k∈d,(k.sum.size:Int)=b:=by
 rcases h with⟨k,a,g,_,rfl,_⟩|⟨_,_,_,rfl,_⟩
 ·exact c
 ·intro k a;rcases List.mem_append.1 (GR.1 a)with a|a
  ·exact c k a
  ·simp at a;rw[a];exact f
theorem MR(base d m:Nat)(O P L:Value)(i q given ae:Int)(z:List Kd)(T:List Pd)(x:List Ld)(s K text:Zi)(n:Int)(refs:Zl)(G:Zk)(I:Nat)(w:Zh)(h:DU w base d m O P L i q given ae z T x)(zS:Fa i z)(h1:1<=i)(yZ:∀k∈z,k.text.size<=maxLen)(yF:((Bf text refs i).size:Int)=i)(yY:text.size<=maxLen)(yV:refs.length<=1000)(yN:0<=ae)(yO:ae<=1000000000)(hr:De w base (vB d m O P L) G refs)(hl:x.length<=200)(yR:0<=given)(xG:given<=1000000000)(yT:0<=q)(yU:q<=1000000000)(yW:0<=n)(yX:n<=1000000000):
 Calls prog 145 #[Yz d,.agg (Yp 1 s K n text G refs.length I)] w fun e w'=>(∃c a b,FU i given ae z x text refs c a b/\e=.panicked [{v:=ay c a b,recovered:=false}]/\Tn (vB d m O P L) w w')∨
  (∃t ah,(∀r∈refs,Ax z r)/\Ci i ae z text refs t ah/\x.length<200/\given<1000000000/\e=.returned (.agg #[Zf,Zf,Zf,Zf,Zf,Zc,Zc,Zc,.string (Bf text refs i),Zg (given+1),Zd,Zd])/\∃O' L',DU w' base d m O' P L' i q (given+1) ah t T (x++[⟨given+1,Bf text refs i,q+n⟩])/\Tn (vB d m O P L) w w'):=by
 obtain⟨W,J⟩:∃W,W=((w.alloc (.cells (Yp 1 s K n text G refs.length I) 60)).alloc (.cells Yr 82)).alloc (.cells Yr 82):=⟨_,rfl⟩;have hB:=(Bm J).1;have yG:=(Bm J).2.1;have xE:=(Bm J).2.2.1;have zR:Aa W (w.heap.size+1) z12:=by have h1:=Aa.new (w.alloc (.cells (Yp 1 s K n text G refs.length I) 60)) z12 82;rw[World.size_alloc]at h1;rw[J];exact Aa.below (v:=Zf) h1 (Zy)
 have zO:Aa W (w.heap.size+2) z12:=by have h1:=Aa.new ((w.alloc (.cells (Yp 1 s K n text G refs.length I) 60)).alloc (.cells Yr 82)) z12 82;rw[World.size_alloc,World.size_alloc]at h1;rw[J];exact h1
 have yB:W.heap[w.heap.size+1]?=some (.cells Yr 82):=by rw[J,Below.heap_alloc _ _ _ (by simp)];have:=heap_alloc_new (w.alloc (.cells (Yp 1 s K n text G refs.length I) 60)) (.cells Yr 82);rw[World.size_alloc]at this;exact this
 have zY:W.heap[w.heap.size+2]?=some (.cells Yr 82):=by have:=heap_alloc_new ((w.alloc (.cells (Yp 1 s K n text G refs.length I) 60)).alloc (.cells Yr 82)) (.cells Yr 82);rw[World.size_alloc,World.size_alloc]at this;rw[J];exact this
 have hD:=h.below hB;have xF:=h.dr.box.lt;have yE:∀b∈vB d m O P L,b<w.heap.size:=h.dr.cg;have xD:base<=w.heap.size:=h.lo;have HC:=Yx (Wu base d m O P L i q given ae z T x text refs G I W hD zS h1 yZ yF yY yV yN yO (hr.move (U:=[]) (Tn.of hB) (by simp) (fun b f=> .inl f)));have HW:=Yx J;have HZ:=Yx (Zb zR (Zb zO (Zb yB (Zb zY (Zb hB (Zb yG xE))))));have zV:Hid (∀b∈vB d m O P L,b<w.heap.size):=yE
 have yI:Hid (DU W base d m O P L i q given ae z T x):=hD;have yJ:Hid (∀k∈z,(k.sum.size:Int)=i):=zS.sz;obtain⟨e0,e3,e4,e5⟩:=Aa.c4 xE 0 3 4 5;clear J h hD zR zO yB zY hB yG xE yE hr zS;go_enter func145,ntmps145;go_upto_region 2 with fail;rw[←HW.o];clear HW;go_wp2_with fail;refine Calls.mono HC.o ?_;intro e A D;have zG:Tn (vB d m O P L) w W:=Tn.of HZ.o.2.2.2.2.1;obtain⟨hrefs,rfl,f⟩|⟨C,D⟩:=D
 ·clear e0 e3 e4 e5;go_wp2;exact⟨rfl,.inl ⟨2,_,_,.inl ⟨hrefs,rfl,rfl,rfl⟩,rfl,zG.trans (Tn.of f)⟩⟩
 have zK:(∃c a b,FU i given ae z x text refs c a b/\e=.panicked [{v:=ay c a b,recovered:=false}]/\Tn (vB d m O P L) W A)∨(e=.returned (.string (Bf text refs i))/\∃t ah S,Ci i ae z text refs t ah/\DU A base d m S P L i q given ah t T x/\Tn (vB d m O P L) W A/\(S.ownBlock=O.ownBlock∨∃g,S.ownBlock=some g/\W.heap.size<=g)):=by
  rcases D with⟨k,hk,hs,hf,rfl,f⟩|⟨k,hk,hs,hf,rfl,f⟩|⟨zA,o,rfl,f⟩|⟨zA,yS,yQ,rfl,⟨O',zN,zF⟩,ht⟩
  ·exact .inr ⟨rfl,z,ae,O,.inl ⟨k,hk,hs,hf,rfl,rfl⟩,yI.o.below f,Tn.of f,.inl rfl⟩
  ·exact .inl ⟨3,_,_,.inr ⟨C,.inl ⟨k,hk,hs,hf,rfl,rfl,rfl⟩⟩,rfl,Tn.of f⟩
  ·exact .inl ⟨4,_,_,.inr ⟨C,.inr (.inl ⟨zA,o,rfl,rfl,rfl⟩)⟩,rfl,Tn.of f⟩
  ·exact .inr ⟨rfl,_,_,O',.inr ⟨zA,yS,yQ,rfl,rfl⟩,zN,ht.mono (by intro b f;unfold vB;simp at f ⊢;rcases f with rfl|rfl|f<;>simp[*]),zF⟩
 clear D;have zC:Hid (∀r∈refs,Ax z r):=C;clear C;obtain⟨c,a,b,zA,rfl,ht⟩|⟨rfl,t,ah,S,F,zP,R,zN⟩:=zK
 ·clear e0 e3 e4 e5;go_wp2;exact⟨rfl,.inl ⟨c,a,b,zA,rfl,zG.trans ht⟩⟩
 have zz:=HZ.o.2.2.2.2.2.1;have Z:∀j,w.heap.size<=j->j∉vB d m O P L:=fun j hj h=>by have:=zV.o _ h;omega
 have zJ:Aa A (w.heap.size+1) z12:=Aa.same HZ.o.1 (R.block _ (by omega) (Z _ (by omega)));have zB:Aa A (w.heap.size+2) z12:=Aa.same HZ.o.2.1 (R.block _ (by omega) (Z _ (by omega)));have zI:Aa A w.heap.size (Yo 1 s K n text G refs.length I):=Aa.same HZ.o.2.2.2.2.2.2 (R.block _ (by omega) (Z _ (by omega)))
 have N:A.heap[w.heap.size+1]?=some (.cells Yr 82):=(R.block _ (by omega) (Z _ (by omega))).trans HZ.o.2.2.1;have l:A.heap[w.heap.size+2]?=some (.cells Yr 82):=(R.block _ (by omega) (Z _ (by omega))).trans HZ.o.2.2.2.1;obtain⟨X,hX⟩:∃X,X=A.setCell (Ze (w.heap.size+2) 8) (.string (Bf text refs i)):=⟨_,rfl⟩;have M:Tn [w.heap.size+2] A X:=by rw[hX];exact En _ _ _ _
 have u:Aa X (w.heap.size+2) (z12.set 8 (.string (Bf text refs i))):=by rw[hX];exact zB.set 8 _
 have B:Aa X (w.heap.size+1) z12:=Aa.same zJ (M.block _ zJ.lt (by simp));have zT:Aa X w.heap.size (Yo 1 s K n text G refs.length I):=Aa.same zI (M.block _ zI.lt (by simp));have H:DU X base d m S P L i q given ah t T x:=zP.an M (by intro b f;simp at f;subst f;exact⟨by omega,zP.cm l (by omega)⟩);have o8:=(zB 8 _ rfl).2;have v8:=(zB 8 _ rfl).1;have E:=F.sz yJ.o yF;have Y:=Yx (Zn F (Zn zP (Zn R zN)))
 have zM:=Yx (Zn M (Zn u (Zn B (Zn H (Zn l N)))));have zW:=Yx hX;have yK:Hid (∃yL,X.heap[w.heap.size+2]?=some (.cells yL 82)):=⟨_,by rw[hX,setCell_eq_setRow A _ _ _ _ _ _ l];exact setRow_heap A _ _ _ _ _ l⟩;obtain⟨yM,_⟩:=zT 3 _ rfl;have s8:=(u 8 _ rfl).1;have xC:w.heap.size+2<X.heap.size:=u.lt;by_cases o:x.length=200∨given=1000000000
 ·have HL:=Yx (Ml base d m S P L i q given ah t T x (Bf text refs i) n X H E F.there o);clear e0 e3 e4 e5 hX M u B zT H zJ zB zI N l E HC;go_upto_region 5 with fail;rw[←zW.o];go_wp2_with fail;refine Calls.mono HL.o ?_;rintro e w2 ⟨rfl,yP⟩;go_wp2;refine⟨rfl,.inl ⟨4,_,_,.inr ⟨zC.o,.inr (.inr ⟨⟨_,_,Y.o.1⟩,o,rfl,rfl,rfl⟩)⟩,rfl,?_⟩⟩
  have t0:=(zG.trans Y.o.2.2.1).fresh zM.o.1 (show w.heap.size<=w.heap.size+2 by omega);exact t0.trans (Tn.of yP)
 ·have yD:x.length<200:=by omega
  have yC:given<1000000000:=by omega
  have HL:=Yx (NJ base d m S P L i q given ah t T x (Bf text refs i) n X H E F.there yD yR yC yT yU yW yX);clear e0 e3 e4 e5 hX M u B zT H zJ zB zI N l E HC o;go_upto_region 5 with fail;rw[←zW.o];go_wp2_with fail;refine Calls.mono HL.o ?_;rintro e w2 ⟨rfl,L',zH,Q⟩;obtain⟨M,u,B,H,l,N⟩:=zM.o
  have y:∀b∈d::L.ownBlock.toList,b<w.heap.size:=fun b f=>zV.o b (by unfold vB;simp at f ⊢;rcases f with rfl|f<;>simp[*]);have yH:Aa w2 (w.heap.size+1) z12:=Aa.same B (Q.block _ B.lt (fun h=>by have:=y _ h;omega));have p:Aa w2 (w.heap.size+2) (z12.set 8 (.string (Bf text refs i))):=Aa.same u (Q.block _ u.lt (fun h=>by have:=y _ h;omega))
  have yA:X.heap[w.heap.size+1]?=_:=(M.block _ (by have:=Y.o.2.2.1.size;omega) (by simp)).trans N;have zZ:w2.heap[w.heap.size+1]?=some (.cells Yr 82):=(Q.block _ B.lt (fun h=>by have:=y _ h;omega)).trans yA;obtain⟨zU,zX⟩:=yK.o;have zF:w2.heap[w.heap.size+2]?=some (.cells zU 82):=(Q.block _ u.lt (fun h=>by have:=y _ h;omega)).trans zX
  have zE:=Yx (Zn zH (Zn Q (Zn (zH.cm zZ (by omega)) (zH.cm zF (by omega)))));obtain⟨⟨y0,q0⟩,⟨y1,q1⟩,⟨y2,q2⟩,⟨y3,q3⟩,⟨y4,q4⟩,⟨y5,q5⟩,⟨y6,q6⟩,⟨y7,q7⟩,⟨y8,q8⟩,⟨y9,q9⟩,⟨xA,xJ⟩,xB,xK⟩:=AT yH;obtain⟨v0,p0⟩:=p 0 _ rfl;obtain⟨v1,p1⟩:=p 1 _ rfl;obtain⟨v2,p2⟩:=p 2 _ rfl;obtain⟨v3,p3⟩:=p 3 _ rfl;obtain⟨v4,p4⟩:=p 4 _ rfl;obtain⟨v5,p5⟩:=p 5 _ rfl;obtain⟨v6,p6⟩:=p 6 _ rfl;obtain⟨v7,p7⟩:=p 7 _ rfl
  obtain⟨xN,p8⟩:=p 8 _ rfl;obtain⟨v9,p9⟩:=p 9 _ rfl;obtain⟨xL,xH⟩:=p 10 _ rfl;obtain⟨xM,xI⟩:=p 11 _ rfl;clear zH Q yH p zZ zF yA M u B H l N HL y zX yM s8 o8 v8;go_wp2;refine bodyPost_ret (v:=.agg #[Zf,Zf,Zf,Zf,Zf,Zc,Zc,Zc,.string (Bf text refs i),Zg (given+1),Zd,Zd]) (by simp[results,results145,go_sem,y0,y1,y2,y3,y4,y5,y6,y7,y8,y9,xA,xB]) rfl ?_
  have T9:=(Tn.set (V:=[w.heap.size+1,w.heap.size+2]) w2 (w.heap.size+2) 9 (Zg (given+1)) (by simp)).trans (Tn.mono (Bh (w2.setCell (Ze (w.heap.size+2) 9) (Zg (given+1))) (w.heap.size+1) Zf Zf Zf Zf Zf Zc Zc Zc (.string (Bf text refs i)) (Zg (given+1)) Zd Zd) (by simp))
  refine .inr ⟨t,ah,zC.o,Y.o.1,yD,yC,rfl,S,L',zE.o.1.an T9 (by intro b f;simp at f;rcases f with rfl|rfl;exact⟨by omega,zE.o.2.2.1⟩;exact⟨by omega,zE.o.2.2.2⟩),?_⟩;have t0:=(zG.trans Y.o.2.2.1).fresh zM.o.1 (show w.heap.size<=w.heap.size+2 by omega);have t1:=t0.trans (zE.o.2.1.mono (V':=vB d m O P L) (by intro b f;unfold vB;simp at f ⊢;rcases f with rfl|f<;>simp[*]))
  exact⟨T9.os.trans t1.os,T9.tape.trans t1.tape,T9.output.trans t1.output,Zm t1.size T9.size,fun b f hv=>(T9.block b (Zr f t1.size) (by simp;omega)).trans (t1.block b f hv)⟩
def Wv(w w':Zh)(e:Ending)(wd now given ae:Int)(T P L:Value)(ls:List Ld)(s:Zi)(hold:Int)(base:Nat):Prop:=
 Tn L.ownBlock.toList w w'/\(((200<=ls.length∨1000000000<=given)/\e=.returned (.agg #[Zg 4,Zf,Zf,Zf,Zf,Zc,Zc,Zc,Zd,Zf,Zd,Zd]))∨
  ((ls.length<200/\given<1000000000)/\∃g c,e=.returned (.agg #[Zf,Zg wd,Zg now,Zg (given+1),Zg ae,T,P,.slice (some ⟨g,0,none⟩) (ls.length+1) c,Zd,Zg (given+1),Zd,Zd])/\w'.ownsRow base 139 3 (.slice (some ⟨g,0,none⟩) (ls.length+1) c) (ls++[(⟨given+1,s,now+hold⟩:Ld)]).length (Ab lC (ls++[(⟨given+1,s,now+hold⟩:Ld)]))/\(L.ownBlock=some g∨w.heap.size<=g)))
theorem FV(p d given ae:Int)(n k f:Zk)(tn o m l i base:Nat)(a:List Ld)(s:Zi)(hold:Int)(w:Zh)(H:w.ownsRow base 139 3 (.slice f a.length i) a.length (Ab lC a))(zA:base<=w.heap.size)(hl:a.length<=1000)(zO:0<=given)(zP:given<=1000000000)(zG:0<=d)(zH:d<=1000000000)(zI:0<=hold)(zJ:hold<=1000000000):
 Calls prog 79 #[.agg (Ys p d given ae n tn o k m l f a.length i),.string s,Zg hold] w fun e w'=>Wv w w' e p d given ae (.slice n tn o) (.slice k m l) (.slice f a.length i) a s hold base:=by
 obtain⟨W,j⟩:∃W,W=(w.alloc (.cells (Ys p d given ae n tn o k m l f a.length i) 40)).alloc (.cells Yr 82):=⟨_,rfl⟩;have z:=(AW j).1;have Q:=(AW j).2.1;have x:=(AW j).2.2.1;have L:Aa W (w.heap.size+1) z12:=by have h1:=Aa.new (w.alloc (.cells (Ys p d given ae n tn o k m l f a.length i) 40)) z12 82;rw[World.size_alloc]at h1;rw[j];exact h1
 have F:=Yx j;have HB:=Yx z;by_cases hfull:200<=a.length∨1000000000<=given
 ·obtain⟨⟨U,q0⟩,⟨Y,q1⟩,⟨Z,q2⟩,⟨y3,q3⟩,⟨y4,q4⟩,⟨y5,q5⟩,⟨y6,q6⟩,⟨y7,q7⟩,⟨y8,q8⟩,⟨y9,q9⟩,⟨D,zK⟩,E,zM⟩:=AT L;obtain⟨v0,v1,v2,v3,v4,v5,v6,v7⟩:=Bw x;have HF:=Yx hfull;have A:(decide ((200:Int)<=(a.length:Int))=true)∨(decide ((200:Int)<=(a.length:Int))=false/\decide ((1000000000:Int)<=given)=true):=by
   by_cases h:200<=a.length
   ·left;simp;omega
   ·right;refine⟨by simp;omega,?_⟩;rcases hfull with S|S
    ·exact absurd S h
    ·simpa using S
  clear j x L z Q hfull H;rcases A with A|⟨A,zN⟩
  all_goals
   go_enter func79,ntmps79;go_upto_region 1 with fail;rw[←F.o];clear F;go_wp2;refine bodyPost_ret (v:=.agg (Yq 4)) (by simp[results,results79,go_sem,U,Y,Z,y3,y4,y5,y6,y7,y8,y9,D,E]) rfl ?_;exact⟨Tn.of (HB.o.trans (Tn.below (Bh W (w.heap.size+1) _ _ _ _ _ _ _ _ _ _ _ _) HB.o.size (by intro v T;simp at T;omega))),.inl ⟨HF.o,rfl⟩⟩
 ·have zF:a.length<200/\given<1000000000:=by omega
  obtain⟨X,G⟩:∃X,X=W.setCell (Ze (w.heap.size) 2) (Zg (given+1)):=⟨_,rfl⟩;have I:Tn [w.heap.size] W X:=by rw[G];exact En _ _ _ _
  have J:Aa X w.heap.size (Yt p d (given+1) ae n tn o k m l f a.length i):=by rw[G];exact x.set 2 _
  have u1:=Aa.same L (I.block _ (by omega) (by simp));have B:=z.trans (I.below z.size (by simp));have de:∀g,(Value.slice f a.length i).ownBlock=some g->g<w.heap.size:=fun g hg=>(Ac H hg).2;have P:=Ae H B;have zV:w.heap.size+2<=X.heap.size:=by have:=I.size;omega
  obtain⟨g,c,K,C,O,t,N⟩:=Nj X base _ a P (⟨given+1,s,d+hold⟩:Ld) (by omega) (by omega) 38;dsimp only at C;have R:=Aa.same J (t.block _ J.lt (fun e=>by have:=de _ e.symm;omega));have e1:=Aa.same u1 (t.block _ (by omega) (fun e=>by have:=de _ e.symm;omega));obtain⟨c2,f2⟩:=x 2 _ rfl;obtain⟨c6,_⟩:=x 6 _ rfl;obtain⟨d1,d2,d6⟩:=Aa.c3 J 1 2 6;obtain⟨i0,i1,i2,i3,i4,i5,i6,i7⟩:=Bw R
  obtain⟨⟨U,q0⟩,⟨Y,q1⟩,⟨Z,q2⟩,⟨y3,q3⟩,⟨y4,q4⟩,⟨y5,q5⟩,⟨y6,q6⟩,⟨y7,q7⟩,⟨y8,q8⟩,⟨y9,q9⟩,⟨D,zK⟩,E,zM⟩:=AT e1;have k6:=(R 6 _ rfl).2;have zU:=GO zG zH zI zJ;have zS:¬((200:Int)<=(a.length:Int)):=by omega
  have zT:¬((1000000000:Int)<=given):=by omega
  have M:=Yx G;have y:=Yx (Zb O (Zb t N));have zB:=Yx B;have zE:=Yx de;have zC:=Yx zF;clear j G x L J u1 I R e1 z Q P H O t N B de hfull;go_enter func79,ntmps79;go_upto_region 1 with fail;rw[←F.o];clear F;go_upto_region 4 with fail;rw[←M.o];clear M c2 f2 c6;go_wp2_with (at_builtin;refine wpList_append_run rfl _ _ 38 38 rfl rfl rfl C ?_);clear C d1 d2 d6;go_wp2
  refine bodyPost_ret (v:=.agg #[Zf,Zg p,Zg d,Zg (given+1),Zg ae,.slice n tn o,.slice k m l,Za g (a.length+1) c,Zd,Zg (given+1),Zd,Zd]) (by simp[results,results79,go_sem,U,Y,Z,y3,y4,y5,y6,y7,y8,y9,D,E]) rfl ?_
  have r:=(Tn.set (V:=[w.heap.size,w.heap.size+1]) K w.heap.size 6 (Za g (a.length+1) c) (by simp)).trans (Tn.mono (Bh (K.setCell (Ze (w.heap.size) 6) (Za g (a.length+1) c)) (w.heap.size+1) Zf (Zg p) (Zg d) (Zg (given+1)) (Zg ae) (.slice n tn o) (.slice k m l) (Za g (a.length+1) c) Zd (Zg (given+1)) Zd Zd) (by simp));have u:=(Tn.of zB.o).trans (Ct y.o.2.1)
  have zR:g<w.heap.size∨w.heap.size+2<=g:=by
   rcases y.o.2.2 with e|e
   ·exact .inl (zE.o g e)
   ·exact .inr (by omega)
  refine⟨⟨r.os.trans u.os,r.tape.trans u.tape,r.output.trans u.output,Zm u.size r.size,fun b hb T=>(r.block b (Zr hb u.size) (by simp;omega)).trans (u.block b hb T)⟩,.inr ⟨zC.o,g,c,rfl,Ai y.o.1 (fun q hq=>r.block q (Ac y.o.1 hq).2 ?_),?_⟩⟩
  ·obtain rfl:g=q:=by simpa [Value.ownBlock]using hq
   simp;omega
  ·rcases y.o.2.2 with e|e
   ·exact .inl e
   ·exact .inr (by omega)
theorem KV(w:Zh)(base:Nat)(v:Value)(b:List (Kd×Value))(A:w.ownsRow base 131 4 v b.length (Ab kC b))(z:Kd×Value)(C:∃a n c,z.2=.slice a n c)(y:b.length<=1000000)(l:base<=w.heap.size)(m:TypeId):
 ∃g d h,(Builtin.append_ #[36,36] m #[v,Za w.heap.size 1 1]).run prog (w.alloc (.cells #[.string z.1.sum,Zg z.1.born,.string z.1.text,z.2] 131))=.ok (Za g (b.length+1) d) h/\h.ownsRow base 131 4 (Za g (b.length+1) d) (b++[z]).length (Ab kC (b++[z]))/\w.grownBy h v.ownBlock/\(v.ownBlock=some g∨g=w.heap.size+1):=by
 obtain⟨D,x,p,q,r⟩:=info_parts GF;have o:=Ae A ((Below.refl _ _).alloc (Zx) (.cells #[.string z.1.sum,Zg z.1.born,.string z.1.text,z.2] 131));have t:∀j u,(Ab kC [z])[j]?=some u->(w.alloc (.cells #[.string z.1.sum,Zg z.1.born,.string z.1.text,z.2] 131)).cell? ((⟨w.heap.size,0,none⟩:Addr).add j)=some u:=by intro j u i;rw[Go.WideShapes.add_plain,Nat.zero_add];exact(Aa.new w [.string z.1.sum,Zg z.1.born,.string z.1.text,z.2] 131 j u (by simpa [Ab,kC]using i)).1
 obtain⟨E,h,B,k,s,_,f⟩:=run_append_own_at (P:=prog) (w.alloc (.cells #[.string z.1.sum,Zg z.1.born,.string z.1.text,z.2] 131)) base 36 m 131 D _ 4 64 underlying36 x p q r rfl (by decide) v b.length (Ab kC b) o ⟨w.heap.size,0,none⟩ 1 1 (Ab kC [z]) (by simp[Ab,kC]) t (by intro u i;obtain⟨a,n,c,e⟩:=C;simp[Ab,kC,e]at i;rcases i with rfl|rfl|rfl|rfl<;>rfl) (by unfold maxLen;omega) (by omega) (by simp;omega)
 obtain⟨g,d,rfl,_,_⟩:=Cf k (fun e=>by subst e;rcases k.2 with⟨_,y⟩|⟨_,_,_,e,_⟩<;>first|omega|cases e);refine⟨g,d,h,B,?_,(World.grownBy_alloc w _ _).trans s,?_⟩
 ·rw[Hz,List.length_append];exact k
 ·rcases f with f|f
  ·exact .inl f.symm
  ·right;simpa [Value.ownBlock]using f
def zD(zs:List (Kd×Value))(s:Zi):Bool:= !(zs.all (fun z=>less z.1.sum s))
def zQ(zs:List (Kd×Value))(one:Kd×Value):List (Kd×Value):=zs.filter (fun z=>less z.1.sum one.1.sum)++(if zD zs one.1.sum then [one]else [])++zs.filter (fun z=> !(less z.1.sum one.1.sum))
def By(zs:List (Kd×Value))(one:Kd×Value):List (Kd×Value):=zs.filter (fun z=>less z.1.sum one.1.sum)++[one]++zs.filter (fun z=> !(less z.1.sum one.1.sum))
theorem NU(a:List (Kd×Value))(one:Kd×Value):(By a one).map (·.1)=Dz (a.map (·.1)) one.1:=by unfold By Dz;rw[List.map_append,List.map_append,List.filter_map,List.filter_map];rfl
theorem FJ{a:List (Kd×Value)}{one z:Kd×Value}(h:z∈By a one):z∈a∨z=one:=by
 unfold By at h;simp only[List.mem_append,List.mem_filter,List.mem_singleton]at h;rcases h with(h|h)|h
 ·exact .inl h.1
 ·exact .inr h
 ·exact .inl h.1
theorem JD{a:List (Kd×Value)}{k:Nat}{x:Kd×Value}(s:Zi)(c:a[k]?=some x):zD (a.take (k+1)) s=(zD (a.take k) s|| !(less x.1.sum s)):=by obtain⟨b,rfl⟩:=Zw c;unfold zD;rw[Zu b,List.all_append];simp
theorem Iv{a:List (Kd×Value)}{s:Zi}(h:zD a s=false):a.filter (fun z=> !(less z.1.sum s))=[]:=by
 rw[List.filter_eq_nil_iff];intro x b;have:less x.1.sum s=true:=by unfold zD at h;simp only[Bool.not_eq_false']at h;exact List.all_eq_true.1 h x b
 simp[this]
theorem UD{a:List (Kd×Value)}{k:Nat}{x:Kd×Value}(one:Kd×Value)(e:a[k]?=some x)(c:zD (a.take k) one.1.sum=false)(d:less x.1.sum one.1.sum=true):zQ (a.take (k+1)) one=zQ (a.take k) one++[x]:=by have b:=JD one.1.sum e;rw[c,d]at b;unfold zQ;rw[Iv c,Iv (by rw[b];rfl),b,c];obtain⟨f,rfl⟩:=Zw e;rw[Zu f,List.filter_append];simp[d]
theorem ZC{a:List (Kd×Value)}{k:Nat}{x:Kd×Value}(one:Kd×Value)(f:a[k]?=some x)(b:zD (a.take k) one.1.sum=false)(e:less x.1.sum one.1.sum=false):zQ (a.take (k+1)) one=zQ (a.take k) one++[one]++[x]:=by have c:=JD one.1.sum f;rw[b,e]at c;have d:=Iv b;unfold zQ;rw[d,c,b];obtain⟨g,rfl⟩:=Zw f;rw[Zu g,List.filter_append,List.filter_append,d];simp[e]
theorem Ww{c:List (Kd×Value)}{k:Nat}{x:Kd×Value}(one:Kd×Value)(f:(c.map (·.1.sum)).Pairwise (fun a b=>less a b=true))(n:c[k]?=some x)(g:zD (c.take k) one.1.sum=true):zQ (c.take (k+1)) one=zQ (c.take k) one++[x]:=by
 have m:=JD one.1.sum n;rw[g,Bool.true_or]at m;obtain⟨i,rfl⟩:=Zw n;obtain⟨y,r,l⟩:∃y∈c.take k,less y.1.sum one.1.sum=false:=by unfold zD at g;simpa using g
 obtain⟨j,p⟩:=List.getElem?_of_mem r;obtain⟨o,e⟩:=Zw p;rw[List.length_take]at o;rw[List.getElem_take]at e;have d:=List.pairwise_iff_getElem.1 f j k (by simp;omega) (by simpa using i) (by omega);rw[List.getElem_map,List.getElem_map,e]at d;have q:less c[k].1.sum one.1.sum=false:=by
  cases h:less c[k].1.sum one.1.sum with
  |false=>rfl
  |true=>rw[Cl d h]at l;cases l
 unfold zQ;rw[m,g,Zu i,List.filter_append,List.filter_append];simp[q]
theorem XK{a:List (Kd×Value)}(one:Kd×Value)(b:zD a one.1.sum=true):zQ a one=By a one:=by unfold zQ By;rw[b];rfl
theorem ZD{a:List (Kd×Value)}(one:Kd×Value)(b:zD a one.1.sum=false):zQ a one++[one]=By a one:=by unfold zQ By;rw[b,Iv b];simp
theorem SG(a:List (Kd×Value))(one:Kd×Value):(zQ a one).length<=a.length+1:=by
 have h:∀(l:List (Kd×Value)),(l.filter (fun z=>less z.1.sum one.1.sum)).length+(l.filter (fun z=> !(less z.1.sum one.1.sum))).length=l.length:=by
  intro l;induction l with
  |nil=>rfl
  |cons y l ih=>cases hl:less y.1.sum one.1.sum<;>simp[hl]<;>omega
 have:=h a;unfold zQ;rw[List.length_append,List.length_append];split<;>simp<;>omega
theorem LH{a:List Kd}{s:Zi}(h:Ax a s):∃(i:Nat) (k:Kd),CE a s=(i:Int)/\a[i]?=some k/\k.sum=s:=by
 rcases FT a s with⟨_,d⟩|⟨i,k,e,b,c⟩
 ·exact absurd h d
 ·exact⟨i,k,e,b,c⟩
theorem Io{a:List Kd}{s:Zi}(h:¬Ax a s):CE a s<0:=by
 rcases FT a s with⟨e,_⟩|⟨i,k,e,b,c⟩
 ·omega
 ·exact absurd ⟨k,Zs b,c⟩ h
end Go.Proofs.YtlhhpofjkgmbeaaGreatDoor
