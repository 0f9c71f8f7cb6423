import Derived.Test.YtcfjcdpkpiidkaaGreatX19
set_option maxRecDepth 100000
set_option maxHeartbeats 16000000
namespace Go.Proofs.YtcfjcdpkpiidkaaGreat
open ChangeShapes WideShapes ChangeAt RowKit _root_.Go.Proofs.Tryz
theorem ML(q k j s:Int)(r n:Zk)(C D:Nat)(a b:Zl)(w:Zh)(R:Ab w w.heap.size r a)(Q:Ab w w.heap.size n b)(O:GW a b):
 Calls prog 37 #[.agg (Ye q r a.length C n b.length D k j s)] w fun e K=>∃x h y l m,e=.returned (.agg (Ye q x a.length h y b.length l k j s))/\
  K.ownsRow w.heap.size 9 1 (.slice x a.length h) a.length (a.map Value.string)/\(∀g,Aj (.slice x a.length h)=some g->g<m)/\K.ownsRow m 9 1 (.slice y b.length l) b.length (b.map Value.string)/\w.heap.size<=m/\Zz w K:=by
 obtain⟨W,i⟩:=Af ((w.alloc (.cells (Ye q r a.length C n b.length D k j s) 31)).alloc (.cells Xx 31));have f:Below w.heap.size w W:=by rw[i];exact(Zy).alloc Yu _
 have T:Bi W (w.heap.size+1) 0 Zb Zb 0 0 0:=by rw[i];exact⟨by simp[go_sem],by simp[go_sem],by simp[go_sem],by simp[go_sem],by simp[go_sem],by simp[go_sem],Yu⟩
 have S:Bi W w.heap.size q (.slice r a.length C) (.slice n b.length D) k j s:=by rw[i];exact⟨by simp[go_sem],by simp[go_sem],by simp[go_sem],by simp[go_sem],by simp[go_sem],by simp[go_sem],Ym⟩
 have f0:∀o,W.frozen? ⟨w.heap.size,o,none⟩=false:=fun o=>by rw[i];simp[go_sem]
 have f1:∀o,W.frozen? ⟨w.heap.size+1,o,none⟩=false:=fun o=>by rw[i];simp[go_sem]
 have zB:W.heap.size=w.heap.size+2:=by rw[i];simp
 have N:=Yw i;have u:=Yw S;have F:=Yw T;have M:=Yw R;have L:=Yw Q;clear i T R Q;obtain⟨U,V,X,Y,Z,a5,a6⟩:=S;go_enter func37,ntmps37;go_upto_region 1 with fail;rw[<-N.o];go_region_with (first
  |(go_at_call 47;refine(Gf r C a W.drew (Ab.L (w:=w) M.o f.drew) O.q).mono ?_;rintro e t ⟨x,h,rfl,A,G⟩;have c:Below W.heap.size W t:=(Below.refl W.heap.size W).drew.trans G;obtain⟨b0,b1,b2,b3,b4,b5,b6⟩:=Bi.below u.o c)
  |(go_at_call 47;refine(Gf n D b t (Ab.L (w:=w) L.o (f.trans (c.mono f.size))) O.m).mono ?_;rintro e E ⟨y,l,rfl,I,z⟩;have d:Below W.heap.size W E:=c.trans (z.mono c.size);obtain⟨c0,c1,c2,c3,c4,c5,c6⟩:=Bi.below u.o d;obtain⟨d0,d1,d2,d3,d4,d5,d6⟩:=Bi.below F.o d;have e0:∀o,E.frozen? ⟨w.heap.size,o,none⟩=false:=(fun o=>(d.frozen (p:=⟨w.heap.size,o,none⟩) Yt).trans (f0 o));have e1:∀o,E.frozen? ⟨w.heap.size+1,o,none⟩=false:=(fun o=>(d.frozen (p:=⟨w.heap.size+1,o,none⟩) Yt).trans (f1 o))))
 all_goals
  have J:E.ownsRow (w.heap.size+2) 9 1 (.slice x a.length h) a.length (a.map Value.string):=(JT A z).mono Yt;have zA:w.heap.size+2<=t.heap.size:=by have:=c.size;omega
  have H:∀g,Aj (.slice x a.length h)=some g->g<t.heap.size:=fun g P=>(Ac A (by cases x with|none=>cases P|some _=>exact P)).2;have B:=Yw (Zn J (Zn I (Zn H (f.trans (d.mono f.size)))));clear J H A I G z c d u F M L U V X Y Z a5 f N;go_wp2
  refine bodyPost_ret (v:=.agg (Ye q x a.length h y b.length l k j s)) (by simp[results,results37,go_sem,d0,d1,d2,d3,d4,d5]) rfl ⟨x,h,y,l,t.heap.size,rfl,?_,B.o.2.2.1,?_,Yv,?_⟩
  .refine World.ownsRow.mono ?_ (show w.heap.size<=w.heap.size+2 by omega)
   iterate 8 (refine ownsRow_setCell_below ?_ Ym _)
   exact B.o.1
  .iterate 8 (refine ownsRow_setCell_below ?_ Ym _)
   exact B.o.2.1
  .iterate 8 (refine Below.setCell ?_ Yu _)
   exact B.o.2.2.2
theorem Oc(d:Nat)(r i h s:Int)(z v:Zk)(I J:Nat)(b a:Zl)(w:Zh)(hq:Ab w w.heap.size z b)(hm:Ab w w.heap.size v a)(hf:GW b a):
 Calls prog 20 #[Yy d,.agg (Ye r z b.length I v a.length J i h s)] w fun e K=>∃c xa t ya u q n R f,e=.returned (Yy c)/\Aa K c (Fy d r (.slice xa b.length t) (.slice ya a.length u) i h s q Zb)/\Ah K w.heap.size (.slice xa b.length t) b/\Ah K w.heap.size (.slice ya a.length u) a/\AT K 94 q n R f/\MK a f R/\n<=a.length/\FH K c/\Hm c q (Aj (.slice xa b.length t)) (Aj (.slice ya a.length u)) []/\w.heap.size<=c/\w.heap.size<=q/\Zz w K:=by
 obtain⟨W,S⟩:=Af (w.alloc (.cells (Ye r z b.length I v a.length J i h s) 31));have j:Below w.heap.size w W:=by rw[S];exact Zy
 have xW:Bi W w.heap.size r (.slice z b.length I) (.slice v a.length J) i h s:=by rw[S];exact⟨Yu,Yu,Yu,Yu,Yu,Yu,Yu⟩
 have HX:=Yw xW;have S0:=Sb (w:=W.drew) xW;have D0:Below W.heap.size W W.drew:=Ad.drew;have HQ:Hid (Ab W.drew W.drew.heap.size z b):=Ab.mono (Ab.below hq j.drew) j.size;have HM:Hid (∀X,Zz W X->Ab X X.heap.size v a):=fun X hX=>Ab.mono (Ab.below hm (j.trans (hX.mono j.size))) (j.trans (hX.mono j.size)).size;have HW:=Yw S;clear S hq hm xW;go_enter func20,ntmps20
 go_upto_region 1 with fail;rw[<-HW.o];clear HW;go_region_held3 (fun X=>X.cell? (Zd (w.heap.size) 0)=some (Zg r)/\X.cell? (Zd (w.heap.size) 1)=some (.slice z b.length I)/\X.cell? (Zd (w.heap.size) 2)=some (.slice v a.length J)/\X.cell? (Zd (w.heap.size) 3)=some (Zg i)/\X.cell? (Zd (w.heap.size) 4)=some (Zg h)/\X.cell? (Zd (w.heap.size) 5)=some (Zg s))
  (first|with_reducible exact S0|with_reducible exact S1|with_reducible exact S2|with_reducible exact S3 _)
  (first
    |(go_at_call 37;refine(ML r i h s z v I J b a W.drew HQ.o (HM.o _ D0) hf).mono ?_;rintro e w1 ⟨x,t,y,u,m,rfl,O,D,P,C,B⟩;have L:Below W.heap.size W w1:=D0.trans (B.mono D0.size);have S1:=Sb (Bi.below HX.o L);have V:=HM.o _ L;have H1:=Yw (Zn O (Zn P (Zn D (Zn C B))));clear O P D C B)
    |(go_at_call 38;refine(GX r i h s z v b.length I J a w1 V (by have:=hf.m;omega)).mono ?_;rintro e l ⟨q,R,f,rfl,Q,F,N,k⟩;have G:Below W.heap.size W l:=L.trans (k.mono L.size);have S2:=Sb (Bi.below HX.o G);have S3:∀o,_:=fun o=>Sb (w:=l.alloc o) (Bi.below HX.o (G.alloc G.size o));have H2:=Yw (Zn Q (Zn F (Zn N k)));clear Q F N k))
 obtain⟨O,P,D,C,B⟩:=H1.o;obtain⟨Q,F,N,k⟩:=H2.o;obtain⟨H,A⟩:=Af (l.alloc (.cells #[Yy d,Zg r,.slice x b.length t,.slice y a.length u,Zg i,Zg h,Zg s,.map (some q),Zb] 59));have M:Below l.heap.size l H:=by rw[A];exact Zy
 have z3:Aa H l.heap.size (Fy d r (.slice x b.length t) (.slice y a.length u) i h s q Zb):=by rw[A];exact Aa.new l _ _
 have zA:w.heap.size<=W.drew.heap.size:=j.size;have z12:=k.size;have lm:=F.lt;have Z:FH H l.heap.size:=by rw[A];exact⟨_,_,heap_alloc_new l _⟩
 have ox:=Ah.own O;have U:=Ah.own P;have Y:Hm l.heap.size q (Aj (.slice x b.length t)) (Aj (.slice y a.length u)) []:=by
  refine⟨Yv,Yu,Yu,fun g T=> ?_,fun g T=> ?_⟩
  .have h1:=ox.V T;exact⟨Yv,Yv,Yu,fun e=>by have h2:=U.V e;have h3:=D g T;omega⟩
  .have h1:=U.V T;exact⟨Yv,Yv,Yu⟩
 have HE:Hid (Zz w H):=(j.trans (G.mono j.size)).trans (M.mono (by have:=j.size;have:=G.size;omega));have E:=Yw (Zn z3 (Zn (((ox.below k).below M).mono zA) (Zn (((U.below k).below M).mono (Zm zA C)) (Zn (F.ah M F.lt) (Zn N (Zn Z Y))))));have zB:w.heap.size<=l.heap.size:=by have:=j.size;have:=G.size;omega
 have zC:w.heap.size<=q:=by have:=j.size;have:=L.size;omega
 rw[<-A];clear A M z3 O P F N D C B k ox U Y Z S0 S1 S2 S3 lm H1 H2 V;go_wp2;go_ret;exact⟨_,x,t,y,u,q,_,R,f,rfl,E.o.1,E.o.2.1,E.o.2.2.1,E.o.2.2.2.1,E.o.2.2.2.2.1,Zx,E.o.2.2.2.2.2.1,E.o.2.2.2.2.2.2,zB,zC,HE.o⟩
theorem CM.made_o{w l:Zh}{h c d m:Nat}{O P L Q M:Value}{B now i a:Int}{A:List Kd}{G:List Pd}{E:List Ld}{F x v I:Int}{o n y:Nat}{f:Lit->Option Value}{H q:Zl}(s:Dr w h d m O P L B now i a A G E)(U:HU w h m B A)(z:Zz w l)(u:Aa l c (Fy d F Q M x v I o Zb))(C:Ah l w.heap.size Q H)(D:Ah l w.heap.size M q)(T:AT l 94 o n y f)(S:MK q f y)(W:n<=q.length)(N:FH l c)(j:Hm c o (Aj Q) (Aj M) [])(J:w.heap.size<=c)(K:w.heap.size<=o):CM l h c d m O P L B now i a A G E F x v I Q M o H q q:=by
 have r:h<=w.heap.size:=by have:=s.bd;have:=s.box.lt;omega
 have R:=s.co;have t:∀b,w.heap.size<=b->b∉vB d m O P L:=fun b z e=>by have:=R b e;omega
 exact⟨s.below z,U.J (V:=[]) (Tn.of z) r Yu Yu,u,N,C.mono r,D.mono r,⟨n,y,f,T,S,W⟩,⟨j.cm,t c J,t o K,fun g k=>⟨(j.q g k).1,(j.q g k).2.1,t g (C.V k).1,(j.q g k).2.2.2⟩,fun g k=>⟨(j.r g k).1,(j.r g k).2.1,t g (D.V k).1⟩⟩,Yv,Yv⟩
theorem PF(s now g a:Int)(ta pa la:Zk)(ac pc lc:Nat)(q:List Kd)(l:List Pd)(j:List Ld)(E A t z:Int)(V U:Zk)(S R:Nat)(B u:Zl)(w:Zh)(J:AW w w.heap.size ta pa la q l j)(hk:Ez q)(hp:Gc l)(hl:JV j)(hf:EZ q l j)(zU:∀k∈q,(Lit.int .i64 k.born).wf=true)(hq:Ab w w.heap.size V B)(hm:Ab w w.heap.size U u)(yN:GW B u):
 Calls prog 6 #[.agg (Yg s now g a ta q.length ac pa l.length pc la j.length lc),.agg (Ye E V B.length S U u.length R A t z)] w fun e w'=>∃o T P L Q M D rs,e=.returned (NZ o T P L Q M D)/\UnitTo s now g a q l j E A t z B u o/\Kq w' w.heap.size T P L Q M D rs o.r.ks o.ps o.ls o.r.D o.r.ms o.r.S/\Zz w w':=by
 obtain⟨W,hW⟩:=Af (((w.alloc (.cells (Yg s now g a ta q.length ac pa l.length pc la j.length lc) 27)).alloc (.cells (Ye E V B.length S U u.length R A t z) 31)).alloc (.cells Xw 34));have zA:Below w.heap.size w W:=by rw[hW];exact((Zy).alloc Yu _).alloc Yt _
 have x2:Aa W (w.heap.size+2) Df:=by have h:=Aa.new ((w.alloc (.cells (Yg s now g a ta q.length ac pa l.length pc la j.length lc) 27)).alloc (.cells (Ye E V B.length S U u.length R A t z) 31)) Df 34;rw[hW];simpa [Df]using h
 have x1:Bi W (w.heap.size+1) E (.slice V B.length S) (.slice U u.length R) A t z:=by rw[hW];exact⟨by simp[go_sem],by simp[go_sem],by simp[go_sem],by simp[go_sem],by simp[go_sem],by simp[go_sem],Ym⟩
 have x0:Aq W w.heap.size s now g a (.slice ta q.length ac) (.slice pa l.length pc) (.slice la j.length lc):=by rw[hW];exact⟨by simp[go_sem],by simp[go_sem],by simp[go_sem],by simp[go_sem],by simp[go_sem],by simp[go_sem],by simp[go_sem],Ym⟩
 have yW:W.heap.size=w.heap.size+3:=by rw[hW];simp
 have HW:=Yw hW;clear hW;go_enter func6,ntmps6;go_wp2_with fail;rw[<-HW.o];refine(KW s now g a _ _ _ _ _ _ q l j E A t z _ _ _ _ B u W (J.L zA) hk hp hl hf zU (hq.L zA) (hm.L zA) yN).mono ?_;rintro e i ⟨b2,rfl,yO,Z⟩;have H:=zA.trans (Z.mono zA.size);have zO:=Yw (x0.below Z);have zB:=Yw (x1.below Z);have zK:Hid (Aa i (w.heap.size+2) Df):=Aa.below (v:=Ze) x2 Z
 have yV:w.heap.size+3<=i.heap.size:=by have:=Z.size;omega
 have zI:=Yw yO;have zM:=Yw H;clear Z x0 x1 x2 HW yO zA yW;by_cases hgood:b2=true/\z≠1000000000
 .obtain⟨rfl,zV⟩:=hgood;have xD:(z==1000000000)=false:=by simpa using zV
  have hP:=zI.o.1 rfl;have HP:=Yw (Za hP zV);have hU:=Wb hP.1 hP.2;have K:Hid (Sm s a q l j E z B u):=hU
  have zJ:Hid (∀X,Zz i X->X.cell? (Zd (w.heap.size) 0)=some (Zg s)/\X.cell? (Zd (w.heap.size) 1)=some (Zg now)/\X.cell? (Zd (w.heap.size) 2)=some (Zg g)/\X.cell? (Zd (w.heap.size) 3)=some (Zg a)/\X.cell? (Zd (w.heap.size) 4)=some (.slice ta q.length ac)/\X.cell? (Zd (w.heap.size) 5)=some (.slice pa l.length pc)/\X.cell? (Zd (w.heap.size) 6)=some (.slice la j.length lc)/\X.cell? (Zd (w.heap.size+1) 0)=some (Zg E)/\X.cell? (Zd (w.heap.size+1) 1)=some (.slice V B.length S)/\X.cell? (Zd (w.heap.size+1) 2)=some (.slice U u.length R)/\X.cell? (Zd (w.heap.size+1) 3)=some (Zg A)/\X.cell? (Zd (w.heap.size+1) 4)=some (Zg t)/\X.cell? (Zd (w.heap.size+1) 5)=some (Zg z)):=fun X I=>by
   have h:=EP (Aq.below zO.o I);have h2:=Sb (Bi.below zB.o I);exact⟨h.1,h.2.1,h.2.2.1,h.2.2.2.1,h.2.2.2.2.1,h.2.2.2.2.2.1,h.2.2.2.2.2.2,h2⟩
  have zG:Hid (AW i.drew i.drew.heap.size ta pa la q l j):=J.L H.drew;have zN:Hid (∀X,Zz i X->Ab X X.heap.size V B/\Ab X X.heap.size U u):=fun X I=>⟨hq.L (H.trans (I.mono H.size)),hm.L (H.trans (I.mono H.size))⟩;have yS:=hU.ok.len;have yU:=hU.pl;have yT:=hU.ll;have h8:=hU.ok.w8;have yQ:Hid (∀k∈q,(k.sum.size:Int)=s):=hU.ok.sz;have D0:Below i.heap.size i i.drew:=Ad.drew
  obtain⟨p0,p1,p2,p3,p4,p5,p6⟩:=zB.o;clear J hk hp hl hf zU hq hm H zI hP hU;go_upto_region 3 with fail;clear p0 p1 p2 p3 p4 p5 p6
  go_region_held3 (fun X=>X.cell? (Zd (w.heap.size) 0)=some (Zg s)/\X.cell? (Zd (w.heap.size) 1)=some (Zg now)/\X.cell? (Zd (w.heap.size) 2)=some (Zg g)/\X.cell? (Zd (w.heap.size) 3)=some (Zg a)/\X.cell? (Zd (w.heap.size) 4)=some (.slice ta q.length ac)/\X.cell? (Zd (w.heap.size) 5)=some (.slice pa l.length pc)/\X.cell? (Zd (w.heap.size) 6)=some (.slice la j.length lc)/\X.cell? (Zd (w.heap.size+1) 0)=some (Zg E)/\X.cell? (Zd (w.heap.size+1) 1)=some (.slice V B.length S)/\X.cell? (Zd (w.heap.size+1) 2)=some (.slice U u.length R)/\X.cell? (Zd (w.heap.size+1) 3)=some (Zg A)/\X.cell? (Zd (w.heap.size+1) 4)=some (Zg t)/\X.cell? (Zd (w.heap.size+1) 5)=some (Zg z))
   (first|with_reducible exact zJ.o _ D0|with_reducible exact zJ.o _ B3|with_reducible exact zJ.o _ B4)
   (first
     |(go_at_call 21;refine(NC s now g a _ _ _ ac pc lc q l j i.drew zG.o yS yU yT yQ.o h8).mono ?_;rintro e w3 ⟨d,m,O,P,L,rfl,hD,yG,yH⟩;have B3:Below i.heap.size i w3:=D0.trans yH;have HD:=Yw (Za hD yG);clear hD yG yH)
     |(go_at_call 20;refine(Oc d E A t z V U S R B u w3 (zN.o _ B3).1 (zN.o _ B3).2 yN).mono ?_;rintro e w4 ⟨c,x,cx,y,cy,mm,n,cc,f,rfl,zH,hx,hy,hM,hF,hn,yL,yM,yJ,yK,zS⟩;have B4:Below i.heap.size i w4:=B3.trans (zS.mono B3.size);have HC:Hid (CM w4 (i.heap.size+1) c d m O P L s now g a q l j E A t z (.slice x B.length cx) (.slice y u.length cy) mm B u u):=CM.made_o HD.o.1 HD.o.2 zS zH hx hy hM hF hn yL yM yJ yK;clear zH hx hy hM hF hn yL yM yJ yK zS))
  clear zJ zG zN D0;go_wp2_with fail;refine(TP (i.heap.size+1) c d m O P L s now g a q l j E A t z _ _ mm B u w4 HC.o K.o).mono ?_;rintro e C ⟨rfl,r,Q,M,D,zR,N,zT⟩;obtain⟨da,dc,rfl,_⟩:=N.dd.row;obtain⟨zF,qc,rfl,_⟩:=N.q.row;obtain⟨zE,mc,rfl,_⟩:=N.mr.row;have yD:i.heap.size+1<=C.heap.size:=Zm HC.o.y zT.size;have B5:Below i.heap.size i C:=B4.trans (zT.mono (Nat.le_succ _));obtain⟨O',yF⟩:=N.dr
  obtain⟨xE,G⟩:=N.box;have F:=zR.sub
  have HT:Hid (∀X,Zz C X->Calls prog 23 #[Yy d] X fun e w'=>∃T P' L' rs,e=.returned (.agg #[Zg s,Zg now,Zg g,Zg a,T,P',L'])/\Bb w' X.heap.size T P' L' rs r.ks l j/\Zz X w'):=fun X I=>RJ (i.heap.size+1) d m O' P L s now g a r.ks l j X (yF.below I) ((F.map _).nodup K.o.ok.nd) (fun k hk=>K.o.ok.sz k (F.subset hk)) (Zm F.length_le K.o.ok.len) K.o.pl K.o.ll (fun k hk=>(K.o.B k (F.subset hk)).1)
  have yE:Hid (∀X,Zz C X->X.cell? (Zd c 0)=some (Yy d)/\X.cell? (Zd c 1)=some (Zg r.H)/\X.cell? (Zd c 2)=some (.slice zF r.D.length qc)/\X.cell? (Zd c 3)=some (.slice zE r.ms.length mc)/\X.cell? (Zd c 4)=some (Zg r.O)/\X.cell? (Zd c 5)=some (Zg r.M)/\X.cell? (Zd c 6)=some (Zg r.ro)/\X.cell? (Zd c 8)=some (.slice da r.S.length dc)):=fun X I=>by have h:=G.below I;exact⟨(h 0 _ rfl).1,(h 1 _ rfl).1,(h 2 _ rfl).1,(h 3 _ rfl).1,(h 4 _ rfl).1,(h 5 _ rfl).1,(h 6 _ rfl).1,(h 8 _ rfl).1⟩
  have xC:i.heap.size+1<=c:=HC.o.bc
  have yB:Hid (∀X Y,Zz C X->Tn [w.heap.size+1+1] X Y->Y.cell? (Zd c 0)=some (Yy d)/\Y.cell? (Zd c 1)=some (Zg r.H)/\Y.cell? (Zd c 2)=some (.slice zF r.D.length qc)/\Y.cell? (Zd c 3)=some (.slice zE r.ms.length mc)/\Y.cell? (Zd c 4)=some (Zg r.O)/\Y.cell? (Zd c 5)=some (Zg r.M)/\Y.cell? (Zd c 6)=some (Zg r.ro)/\Y.cell? (Zd c 8)=some (.slice da r.S.length dc)):=fun X Y I hY=>by have h0:=G.below I;have h:=Aa.same h0 (hY.block c h0.lt Yt);exact⟨(h 0 _ rfl).1,(h 1 _ rfl).1,(h 2 _ rfl).1,(h 3 _ rfl).1,(h 4 _ rfl).1,(h 5 _ rfl).1,(h 6 _ rfl).1,(h 8 _ rfl).1⟩
  have HR:=Yw (Za zR N);have D5:Below C.heap.size C C.drew:=Ad.drew;have yR:Hid (Aa C (w.heap.size+2) Df):=Aa.below (v:=Ze) zK.o B5;have zP:Hid (Zz w C):=zM.o.trans (B5.mono zM.o.size);clear zR N zT yF G F HC HD zO zB zK B3 B4 B5;go_upto_region 5 with fail
  go_region_held3 (fun X=>X.cell? (Zd c 0)=some (Yy d)/\X.cell? (Zd c 1)=some (Zg r.H)/\X.cell? (Zd c 2)=some (.slice zF r.D.length qc)/\X.cell? (Zd c 3)=some (.slice zE r.ms.length mc)/\X.cell? (Zd c 4)=some (Zg r.O)/\X.cell? (Zd c 5)=some (Zg r.M)/\X.cell? (Zd c 6)=some (Zg r.ro)/\X.cell? (Zd c 8)=some (.slice da r.S.length dc))
   (first|with_reducible exact yE.o _ D5|with_reducible exact yE.o _ B6|with_reducible exact yB.o _ _ B6 (FI _ _ _ _ _ _ _ _ _ _ _ _ _ _ _ _ _))
   (first
     |(go_at_call 23;refine Calls.mono (HT.o C.drew D5) ?_;rintro e w6 ⟨T,P',L',rs,rfl,zC,yI⟩;have B6:Below C.heap.size C w6:=D5.trans yI;have Z6:Aa w6 (w.heap.size+1+1) Df:=Aa.below (v:=Ze) yR.o B6;have yP:Hid (Bb w6 C.heap.size T P' L' rs r.ks l j):=zC;obtain⟨ta',tc,rfl⟩:=As zC.aj;obtain⟨pa',pca,rfl⟩:=As zC.pins;obtain⟨la',lca,rfl⟩:=As zC.aq;clear zC yI;obtain⟨⟨y0,q0⟩,⟨y1,q1⟩,⟨y2,q2⟩,⟨y3,q3⟩,⟨y4,q4⟩,⟨y5,q5⟩,⟨y6,q6⟩,⟨y7,q7⟩,⟨y8,q8⟩,⟨y9,q9⟩,⟨zW,yX⟩,⟨zX,yY⟩,⟨zY,yZ⟩,⟨zZ,xA⟩,yA,xB⟩:=Gs Z6))
  go_wp2;refine bodyPost_ret (v:=NZ ⟨0,s,now,g,a,l,j,r⟩ (.slice ta' r.ks.length tc) (.slice pa' l.length pca) (.slice la' j.length lca) (.slice zF r.D.length qc) (.slice zE r.ms.length mc) (.slice da r.S.length dc)) (by simp[results,results6,go_sem,y0,y1,y2,y3,y4,y5,y6,y7,y8,y9,zW,zX,zY,zZ,yA,NZ]) rfl ?_
  exact⟨_,_,_,_,_,_,_,rs,rfl,.good HP.o r HR.o.1,Kq.made HR.o.2 yP.o B6 (FI w6 _ _ _ _ _ _ _ _ _ _ _ _ _ _ _ _) Yv Yv yD,zP.o.trans ((B6.mono zP.o.size).trans ((FI w6 _ _ _ _ _ _ _ _ _ _ _ _ _ _ _ _).below (Zm zP.o.size B6.size) (by intro b hb;simp at hb;omega)))⟩
 .have HP:Hid (¬((AI s now g a q l j/\AK s a E A t z B u)/\z≠1000000000)):=fun hp=>hgood ⟨zI.o.2 hp.1,hp.2⟩;obtain⟨⟨y0,q0⟩,⟨y1,q1⟩,⟨y2,q2⟩,⟨y3,q3⟩,⟨y4,q4⟩,⟨y5,q5⟩,⟨y6,q6⟩,⟨y7,q7⟩,⟨y8,q8⟩,⟨y9,q9⟩,⟨zW,yX⟩,⟨zX,yY⟩,⟨zY,yZ⟩,⟨zZ,xA⟩,yA,xB⟩:=Gs zK.o;obtain⟨a0,a1,a2,a3,a4,a5,a6⟩:=zB.o;have yC:b2=false\/(b2=true/\z=1000000000):=by
   cases b2 with
   |false=>exact .inl rfl
   |true=>exact .inr ⟨rfl,Classical.byContradiction fun e=>hgood ⟨rfl,e⟩⟩
  clear J hk hp hl hf zU hq hm H zO zB zK zI hgood;rcases yC with rfl|⟨rfl,zV⟩
  all_goals
   go_wp2;refine bodyPost_ret (v:=NZ ⟨1,0,0,0,0,[],[],⟨[],0,0,0,0,[],[],[]⟩⟩ Zb Zb Zb Zb Zb Zb) (by simp[results,results6,go_sem,y0,y1,y2,y3,y4,y5,y6,y7,y8,y9,zW,zX,zY,zZ,yA,NZ]) rfl ?_;exact⟨_,_,_,_,_,_,_,[],rfl,.bad HP.o,Wd _ _,zM.o.trans ((FI i _ _ _ _ _ _ _ _ _ _ _ _ _ _ _ _).below (Zm (Nat.le_add_right _ 3) yV) (by intro b hb;simp at hb;omega))⟩
end Go.Proofs.YtcfjcdpkpiidkaaGreat
