import Derived.Test.YtmjlkgpekcnacaaGreatX15
set_option maxRecDepth 100000
set_option maxHeartbeats 16000000
namespace Go.Proofs.YtmjlkgpekcnacaaGreat
open Go.ChangeShapes Go.WideShapes Go.ChangeAt Go.RowKit _root_.Go.Proofs.Tryz
variable{w X:Zh}{a k j n:Nat}{b d now num:Int}{c:Zk}{s x y:Zi}{r:Rs}{l:Zl}{T:Value}
theorem ON(wd now E r:Int)(a:Zk)(sc:Nat)(P L:Value)(B:List Kd)(s:Zi)(i n m C:Int)(g h T Q:Nat)(b c:Zl)(w:Zh)(zE:AI w w.heap.size a B)(yC:B.length<=1048576)(hq:Ab w w.heap.size (some ⟨g,0,none⟩) b)(hm:Ab w w.heap.size (some ⟨h,0,none⟩) c)(hf:Qn b c)(yT:b.length<=23200):
 Calls prog 131 #[.agg #[Zg wd,Zg now,Zg E,Zg r,.slice a B.length sc,P,L],.agg (Xy i (some ⟨g,0,none⟩) b.length T (some ⟨h,0,none⟩) c.length Q n m C),.string s] w fun e w'=>∃x t y q,e=.returned (.agg (Xy i (some ⟨x,0,none⟩) ((shQ i B b c s).length) t (some ⟨y,0,none⟩) c.length q n m C))/\
  w'.ownsRow w.heap.size 9 1 (Yz x (shQ i B b c s).length t) (shQ i B b c s).length ((shQ i B b c s).map Value.string)/\w'.ownsRow w.heap.size 9 1 (Yz y c.length q) c.length (c.map Value.string)/\x≠y/\Zz w w':=by
 obtain⟨i0,hi,yE,yF,yG⟩:=info_parts BW;have yR:=hf.q;have yB:=hf.m;obtain⟨W,U⟩:∃W,W=((w.alloc (.cells #[Zg wd,Zg now,Zg E,Zg r,.slice a B.length sc,P,L] 27)).alloc (.cells (Xy i (some ⟨g,0,none⟩) b.length T (some ⟨h,0,none⟩) c.length Q n m C) 78)).alloc (.cells Xx 78):=⟨_,rfl⟩;have zG:Below w.heap.size w W:=by rw[U];exact((Zy).alloc Yu _).alloc Yt _
 have x2:BP W (w.heap.size+1+1) 0 Zb Zb 0 0 0:=by rw[U];exact⟨by simp[go_sem],by simp[go_sem],by simp[go_sem],by simp[go_sem],by simp[go_sem],by simp[go_sem],Yu⟩
 have x1:BP W (w.heap.size+1) i (Yz g b.length T) (Yz h c.length Q) n m C:=by rw[U];exact⟨by simp[go_sem],by simp[go_sem],by simp[go_sem],by simp[go_sem],by simp[go_sem],by simp[go_sem],Yn⟩
 have x0:Ah W w.heap.size wd now E r (.slice a B.length sc) P L:=by rw[U];exact⟨by simp[go_sem],by simp[go_sem],by simp[go_sem],by simp[go_sem],by simp[go_sem],by simp[go_sem],by simp[go_sem],Yn⟩
 have D:∀o,W.frozen? ⟨w.heap.size+1+1,o,none⟩=false:=fun o=>by rw[U];simp[go_sem]
 have yV:W.heap.size=w.heap.size+3:=by rw[U];simp
 have HW:=Yw U;have N:=Yw (Zn hq hm);have HK:=Yw zE;have zI:=Yw x1;have K:=Yw x2;have d:=Yw zG;clear U hq hm zE x1 x2;obtain⟨X,Y,Z,a3,a4,a5,a6⟩:=zI.o;obtain⟨y0,y1,y2,y3,y4,y5,y6,y7⟩:=x0;have yA:Below W.heap.size W W:=Below.refl _ _;go_enter func131,ntmps131;go_upto_region 1 with fail;rw[<-HW.o];clear HW;by_cases p0:i=0
 .have HN:Hid (shQ i B b c s=b):=Jn (.inl p0);subst p0;clear y0 y1 y2 y3 y4 y5 y6 y7;obtain⟨z,rfl⟩:∃z,z=W:=⟨_,rfl⟩;go_wp2_with fail;refine(Ez 0 n m C g h T Q b c z (Ab.M N.o.1 d.o) (Ab.M N.o.2 d.o) hf).mono ?_;rintro e F ⟨x,t,y,q,rfl,H,I,M,f⟩
  have l:=Yw (Zn (H.mono (show w.heap.size+3<=z.heap.size by omega)) (Zn (I.mono (show w.heap.size+3<=z.heap.size by omega)) (Zn M (d.o.trans (f.mono d.o.size)))));obtain⟨d0,d1,d2,d3,d4,d5,d6⟩:=BP.below K.o f;have zK:∀o,F.frozen? ⟨w.heap.size+1+1,o,none⟩=false:=fun o=>(f.frozen (p:=⟨w.heap.size+1+1,o,none⟩) Yn).trans (D o);clear H I f X Y Z a3 a4 a5 D;go_wp2
  refine bodyPost_ret (v:=.agg (Xy 0 (some ⟨x,0,none⟩) b.length t (some ⟨y,0,none⟩) c.length q n m C)) (by simp[results,results131,go_sem,d0,d1,d2,d3,d4,d5]) rfl ?_;rw[HN.o];refine⟨x,t,y,q,rfl,?_,?_,l.o.2.2.1,?_⟩
  .refine World.ownsRow.mono ?_ (show w.heap.size<=w.heap.size+3 by omega)
   iterate 6 (refine ownsRow_setCell_below ?_ Yu _)
   exact l.o.1
  .refine World.ownsRow.mono ?_ (show w.heap.size<=w.heap.size+3 by omega)
   iterate 6 (refine ownsRow_setCell_below ?_ Yu _)
   exact l.o.2.1
  .iterate 6 (refine Below.setCell ?_ Yn _)
   exact l.o.2.2.2
 have yW:(i==0)=false:=by simpa using p0
 go_wp2_with fail;refine(Cn wd now E r a sc P L B s W w.heap.size (AI.below HK.o zG) zG.size yC).mono ?_;rintro e z ⟨rfl,S⟩;have zA:=Yw (d.o.trans (S.mono d.o.size));have zB:=Yw (BP.below zI.o S);have zC:=Yw (BP.below K.o S);have zJ:∀o,z.frozen? ⟨w.heap.size+1+1,o,none⟩=false:=fun o=>(S.frozen (p:=⟨w.heap.size+1+1,o,none⟩) Yn).trans (D o);have yU:=S.size
 clear X Y Z a3 a4 a5 a6 y0 y1 y2 y3 y4 y5 y6 y7 zI K d D S yA zG;have d:=Yw zA.o;have K:=Yw zC.o;have D:=zJ;clear zA zC zJ;obtain⟨X,Y,Z,a3,a4,a5,a6⟩:=zB.o;rcases BV B s with⟨zH,zU⟩|⟨fi,fu,zH,zT,zS⟩
 .have HN:Hid (shQ i B b c s=b):=Jn (.inr (.inl zU));rw[zH];clear zU;go_wp2_with fail;refine(Ez i n m C g h T Q b c z (Ab.M N.o.1 d.o) (Ab.M N.o.2 d.o) hf).mono ?_;rintro e F ⟨x,t,y,q,rfl,H,I,M,f⟩;have l:=Yw (Zn (H.mono (show w.heap.size+3<=z.heap.size by omega)) (Zn (I.mono (show w.heap.size+3<=z.heap.size by omega)) (Zn M (d.o.trans (f.mono d.o.size)))))
  obtain⟨d0,d1,d2,d3,d4,d5,d6⟩:=BP.below K.o f;have zK:∀o,F.frozen? ⟨w.heap.size+1+1,o,none⟩=false:=fun o=>(f.frozen (p:=⟨w.heap.size+1+1,o,none⟩) Yn).trans (D o);clear H I f X Y Z a3 a4 a5 D;go_wp2;refine bodyPost_ret (v:=.agg (Xy i (some ⟨x,0,none⟩) b.length t (some ⟨y,0,none⟩) c.length q n m C)) (by simp[results,results131,go_sem,d0,d1,d2,d3,d4,d5]) rfl ?_;rw[HN.o]
  refine⟨x,t,y,q,rfl,?_,?_,l.o.2.2.1,?_⟩
  .refine World.ownsRow.mono ?_ (show w.heap.size<=w.heap.size+3 by omega)
   iterate 6 (refine ownsRow_setCell_below ?_ Yu _)
   exact l.o.1
  .refine World.ownsRow.mono ?_ (show w.heap.size<=w.heap.size+3 by omega)
   iterate 6 (refine ownsRow_setCell_below ?_ Yu _)
   exact l.o.2.1
  .iterate 6 (refine Below.setCell ?_ Yn _)
   exact l.o.2.2.2
 have zY:Aw B s:=⟨fu,Zs zT,zS⟩;rw[zH];have yM:decide ((fi:Int)<0)=false:=Yu
 clear zH zT zS;have HC:=Yw (DM (some ⟨h,0,none⟩) Q c s z z.heap.size (Ab.M (w:=w) N.o.2 d.o) yB);go_wp2_with fail;refine Calls.mono HC.o ?_;rintro e w9 ⟨rfl,zZ⟩;rw[zZ];clear zZ HC w9;by_cases hin:s∈c
 .have HN:Hid (shQ i B b c s=b):=Jn (.inr (.inr (.inl hin)));have J:c.any (fun x=>decide (x=s))=true:=List.any_eq_true.2 ⟨s,hin,Yu⟩;rw[J];clear J hin;go_wp2_with fail;refine(Ez i n m C g h T Q b c z (Ab.M N.o.1 d.o) (Ab.M N.o.2 d.o) hf).mono ?_;rintro e F ⟨x,t,y,q,rfl,H,I,M,f⟩
  have l:=Yw (Zn (H.mono (show w.heap.size+3<=z.heap.size by omega)) (Zn (I.mono (show w.heap.size+3<=z.heap.size by omega)) (Zn M (d.o.trans (f.mono d.o.size)))));obtain⟨d0,d1,d2,d3,d4,d5,d6⟩:=BP.below K.o f;have zK:∀o,F.frozen? ⟨w.heap.size+1+1,o,none⟩=false:=fun o=>(f.frozen (p:=⟨w.heap.size+1+1,o,none⟩) Yn).trans (D o);clear H I f X Y Z a3 a4 a5 D;go_wp2
  refine bodyPost_ret (v:=.agg (Xy i (some ⟨x,0,none⟩) b.length t (some ⟨y,0,none⟩) c.length q n m C)) (by simp[results,results131,go_sem,d0,d1,d2,d3,d4,d5]) rfl ?_;rw[HN.o];refine⟨x,t,y,q,rfl,?_,?_,l.o.2.2.1,?_⟩
  .refine World.ownsRow.mono ?_ (show w.heap.size<=w.heap.size+3 by omega)
   iterate 6 (refine ownsRow_setCell_below ?_ Yu _)
   exact l.o.1
  .refine World.ownsRow.mono ?_ (show w.heap.size<=w.heap.size+3 by omega)
   iterate 6 (refine ownsRow_setCell_below ?_ Yu _)
   exact l.o.2.1
  .iterate 6 (refine Below.setCell ?_ Yn _)
   exact l.o.2.2.2
 have J:c.any (fun x=>decide (x=s))=false:=by rw[List.any_eq_false];intro x hx e;exact hin (by simpa using (of_decide_eq_true e)▸hx)
 rw[J];clear J;by_cases p1:b.length=23200
 .have HN:Hid (shQ i B b c s=b):=Jn (.inr (.inr (.inr p1)));have yJ:decide ((23200:Int)<=(b.length:Int))=true:=Yt
  clear p1;go_wp2_with fail;refine(Ez i n m C g h T Q b c z (Ab.M N.o.1 d.o) (Ab.M N.o.2 d.o) hf).mono ?_;rintro e F ⟨x,t,y,q,rfl,H,I,M,f⟩;have l:=Yw (Zn (H.mono (show w.heap.size+3<=z.heap.size by omega)) (Zn (I.mono (show w.heap.size+3<=z.heap.size by omega)) (Zn M (d.o.trans (f.mono d.o.size)))));obtain⟨d0,d1,d2,d3,d4,d5,d6⟩:=BP.below K.o f
  have zK:∀o,F.frozen? ⟨w.heap.size+1+1,o,none⟩=false:=fun o=>(f.frozen (p:=⟨w.heap.size+1+1,o,none⟩) Yn).trans (D o);clear H I f X Y Z a3 a4 a5 D;go_wp2;refine bodyPost_ret (v:=.agg (Xy i (some ⟨x,0,none⟩) b.length t (some ⟨y,0,none⟩) c.length q n m C)) (by simp[results,results131,go_sem,d0,d1,d2,d3,d4,d5]) rfl ?_;rw[HN.o];refine⟨x,t,y,q,rfl,?_,?_,l.o.2.2.1,?_⟩
  .refine World.ownsRow.mono ?_ (show w.heap.size<=w.heap.size+3 by omega)
   iterate 6 (refine ownsRow_setCell_below ?_ Yu _)
   exact l.o.1
  .refine World.ownsRow.mono ?_ (show w.heap.size<=w.heap.size+3 by omega)
   iterate 6 (refine ownsRow_setCell_below ?_ Yu _)
   exact l.o.2.1
  .iterate 6 (refine Below.setCell ?_ Yn _)
   exact l.o.2.2.2
 have yJ:decide ((23200:Int)<=(b.length:Int))=false:=Yt
 have HN:Hid (shQ i B b c s=b++[s]):=UN p0 zY hin p1;clear zY hin;go_wp2_with fail;refine(Ez i n m C g h T Q b c z (Ab.M N.o.1 d.o) (Ab.M N.o.2 d.o) hf).mono ?_;rintro e F ⟨x,t,y,q,rfl,H,I,M,f⟩;have lx:=H.lt x rfl;have ly:=I.lt y rfl;have zO:=f.size;obtain⟨G,hV⟩:∃V,V=F.alloc (.cells (Xy i (some ⟨x,0,none⟩) b.length t (some ⟨y,0,none⟩) c.length q n m C) 78):=⟨_,rfl⟩
 have zF:Below F.heap.size F G:=by rw[hV];exact Zy
 have O:=f.trans (zF.mono zO);have l:Hid (G.ownsRow (w.heap.size+3) 9 1 (Yz x b.length t) b.length (b.map Value.string)/\G.ownsRow (w.heap.size+3) 9 1 (Yz y c.length q) c.length (c.map Value.string)/\x≠y/\Zz w G):=⟨(Nj H zF).mono Yv,(Nj I zF).mono Yv,M,d.o.trans (O.mono d.o.size)⟩;have H8:Hid (BP G F.heap.size i (Yz x b.length t) (Yz y c.length q) n m C):=by show BP G F.heap.size i (Yz x b.length t) (Yz y c.length q) n m C;rw[hV];exact BP.new _ _ _ _ _ _ _ _
 have H2:=Yw (BP.below K.o O);have zP:∀o,G.frozen? ⟨w.heap.size+1+1,o,none⟩=false:=fun o=>(O.frozen (p:=⟨w.heap.size+1+1,o,none⟩) Yn).trans (D o);have f8:∀o,G.frozen? ⟨F.heap.size,o,none⟩=false:=fun o=>by rw[hV];simp[go_sem]
 have yI:G.heap.size=F.heap.size+1:=by rw[hV];simp
 go_upto_region 4 with fail;rw[<-hV];clear hV zF H I f O D zB K d N HK X Y Z a3 a4 a5 a6;have D:=zP;clear zP;generalize F.heap.size=b7 at *
 have yP:w.heap.size+3<=b7:=Yv
 have yQ:b7<G.heap.size:=Yv
 clear yI;obtain⟨c0,c1,c2,c3,c4,c5,c6⟩:=H8.o;obtain⟨d0,d1,d2,d3,d4,d5,d6⟩:=H2.o;go_wp2_with (first
  |(at_builtin;refine wpList_append_lies _ rfl _ _ 29 rfl (w.heap.size+3) 9 i0 Zc 1 16 underlying29 hi yE yF yG rfl Yr _ b.length (b.map Value.string) rfl ?d0 ⟨G.heap.size,0,none⟩ 1 1 [.string s] rfl rfl ?d1 ?d2 Yr ?d3 ?d4 ?d5 _ rfl ?_)
  |go_in)
 case d0=>exact l.o.1.alloc _
 case d1=>exact cell_one_new G (.string s) 9
 case d2=>intro u hu;simp at hu;subst hu;rfl
 case d3=>unfold maxLen;omega
 case d4=>omega
 case d5=>simp;omega
 intro k cap w4 zV zM zN yL;have R:Below G.heap.size G (G.alloc (.cells #[.string s] 9)):=Zy;have yH:=zM.size;simp[Value.ownBlock]at yH zN;have A:(G.alloc (.cells #[.string s] 9)).grownBy w4 (some x):=by simpa [Value.ownBlock]using zM
 have r7:=(BP.below H8.o R).grown A Yv;have r2:=(BP.below H2.o R).grown A Yv;have yN:∀o,w4.frozen? ⟨b7,o,none⟩=false:=fun o=>(A.frozen_far ⟨b7,o,none⟩ Yn Yn).trans ((R.frozen (p:=⟨b7,o,none⟩) Yn).trans (f8 o))
 have zJ:∀o,w4.frozen? ⟨w.heap.size+1+1,o,none⟩=false:=fun o=>(A.frozen_far ⟨w.heap.size+1+1,o,none⟩ Yn Yn).trans ((R.frozen (p:=⟨w.heap.size+1+1,o,none⟩) Yn).trans (D o));have zX:w4.ownsRow (w.heap.size+3) 9 1 (Yz y c.length q) c.length (c.map Value.string):=(l.o.2.1.alloc _).kept A (.inr (by simp[Value.ownBlock];omega))
 have zR:Below w.heap.size w w4:=(l.o.2.2.2.trans (R.mono l.o.2.2.2.size)).grown A Yt (fun j hj=>by cases hj;omega);have yD:k≠y:=Yv
 have yS:¬k=b7:=Yv
 have yO:¬b7=w.heap.size+1+1:=Yv
 have yK:¬w.heap.size+1+1=b7:=Yv
 have zW:w4.ownsRow (w.heap.size+3) 9 1 (Yz k (b.length+1) cap) (b.length+1) ((b++[s]).map Value.string):=by simpa using zV
 have HP:=Yw (Zn zW (Zn zX (Zn yD zR)));obtain⟨c0,c1,c2,c3,c4,c5,c6⟩:=r7;obtain⟨d0,d1,d2,d3,d4,d5,d6⟩:=r2;clear zV zW zX zM A zR R f8 D H8 H2 l;go_wp2;refine bodyPost_ret (v:=.agg (Xy i (some ⟨k,0,none⟩) (b.length+1) cap (some ⟨y,0,none⟩) c.length q n m C)) (by simp[results,results131,go_sem,d0,d1,d2,d3,d4,d5]) rfl ?_;rw[HN.o];refine⟨k,cap,y,q,Yu,?_,?_,HP.o.2.2.1,?_⟩
 .rw[show(b++[s]).length=b.length+1 by simp];refine World.ownsRow.mono ?_ (show w.heap.size<=w.heap.size+3 by omega)
  iterate 6 (refine ownsRow_setCell_below ?_ Yu _)
  refine ownsRow_setCell_other ?_ (by simp[Value.ownBlock];omega) _;exact HP.o.1
 .refine World.ownsRow.mono ?_ (show w.heap.size<=w.heap.size+3 by omega)
  iterate 6 (refine ownsRow_setCell_below ?_ Yu _)
  refine ownsRow_setCell_other ?_ (by simp[Value.ownBlock];omega) _;exact HP.o.2.1
 .iterate 7 (refine Below.setCell ?_ Yn _)
  exact HP.o.2.2.2
theorem CT.srows{b:Nat}{g e:Zk}{i:List (Kd×Value)}{f:List Pd}{d:List Ld}(h:CT w a b g e c k j i f d):AZ w w.heap.size g e c (i.map (·.1)) f d:=⟨h.ct,h.fp,h.fs⟩
def WY(r:Rs)(xa:Zk)(_:Nat)(pa:Zk)(pc:Nat)(la:Zk)(lc:Nat)(X:Zh):Prop:=
 ∃base b zs,zs.map (·.1)=r.ks/\CT X base b xa pa la pc lc zs r.ps r.ls
def WZ(v:Vd)(cs:Zj)(V:List Nat)(X:Zh):Prop:=
 ∃base b p l tc pc lc zs,cs=[Zg v.O,Zg v.D,Zg v.G,Zg v.C,.slice (some ⟨b,0,none⟩) zs.length tc,.slice (some ⟨p,0,none⟩) v.ps.length pc,.slice (some ⟨l,0,none⟩) v.ls.length lc]/\V=[l]/\zs.map (·.1)=v.ks/\CT X base b (some ⟨b,0,none⟩) (some ⟨p,0,none⟩) (some ⟨l,0,none⟩) pc lc zs v.ps v.ls
theorem Ep.sz{c:Int}{ks:List Kd}{t:List Pd}{o:List Ld}{n:Int}{q:Zi}{f:Zi}{e:Zl}(j:1<=d)(h:∀k∈ks,(k.sum.size:Int)=d)(g:Ep d now c b ks t o n s q num f e r):∀k∈r.ks,(k.sum.size:Int)=d:=by
 rcases g with⟨rfl,_,m,l,x,y,g,rfl⟩|⟨_,_,i,rfl⟩|⟨_,_,rfl⟩|⟨_,_,m,l,rfl⟩|⟨_,_,rfl⟩|⟨_,A,rfl⟩|⟨_,_,_,rfl⟩
 .rcases g with⟨_,_,_,_,rfl,rfl⟩|⟨v,u,z,rfl,rfl⟩
  .exact h
  .intro k a;rcases List.mem_append.1 (Ih.1 a)with a|a
   .exact h k a
   .rw[List.mem_singleton]at a;subst a;exact FJ _ _ _ j
 .exact h
 .exact h
 .exact h
 .exact h
 .exact h
 .exact fun k a=>h k (List.filter_sublist.subset a)
theorem VJ{g:Int}{b:List Kd}(h:MG g b):∀k∈b,∀s∈k.B,s≠⟨#[]⟩:=fun k d x f e=>by have a:=AX (h k d);obtain⟨i,c⟩:=List.getElem?_of_mem f;have:=a.size c;rw[e]at this;have j:=a.lo;have l:((⟨#[]⟩:Zi).size:Int)=0:=rfl;omega
def PN(ps:List Pd):Prop:=∀p∈ps,p.name.size<=40
theorem PN.step{m e:Int}{q:List Kd}{j:List Pd}{t:List Ld}{l:Int}{i:Zi}{d:Zi}{c:Zl}(h:PN j)(n:Ci l s i num d c m=true)(k:Ep m now e b q j t l s i num d c r):PN r.ps:=by
 have o:=(EQ n).2.2.name;rcases k with⟨rfl,g,y,x,u,v,k,rfl⟩|⟨_,g,_,rfl⟩|⟨_,_,rfl⟩|⟨_,g,_,_,rfl⟩|⟨_,_,rfl⟩|⟨_,_,rfl⟩|⟨_,_,_,rfl⟩
 .exact h
 .intro p a;have f:p∈BC j i s:=a;unfold BC at f;rcases List.mem_append.1 f with a|a
  .rcases List.mem_append.1 a with a|a
   .exact h p (List.mem_filter.1 a).1
   .rw[List.mem_singleton.1 a];exact o
  .exact h p (List.mem_filter.1 a).1
 .exact fun p a=>h p (List.mem_filter.1 a).1
 .exact h
 .exact h
 .exact h
 .exact h
theorem CJ.pn{c:Int}:∀{xs:Zl} {r r':Rs},CJ c r xs r'->PN r.ps->PN r'.ps
 |[],r,r',h,hr=>by obtain rfl:r'=r:=h;exact hr
 |x::xs,r,r',h,hr=>by obtain⟨d,a,b⟩:=h;exact CJ.pn b (hr.step (GQ a.1).1 a.2)
structure Gy (ks:List Kd) (ps:List Pd) (ls:List Ld):Prop where
 k:Fm ks
 p:FP ps
 l:Hx ls
 b:∀k∈ks,(Lit.int .i64 k.born).wf=true
 n:ks.length<=600/\ps.length<=100/\ls.length<=200
theorem RQ{j a:Int}{h:List Kd}{g:List Pd}{i:List Ld}(c:Gu j now d a h g i)(f:RX j a h g i)(n:PN g)(v:j<=8):Gy h g i:=by
 have q:=c.ak;have r:=c.cf.len;have t:=c.np;have u:=c.nl
 refine⟨⟨Yp,fun k b=>by have:=c.cf.sz k b;unfold maxLen;omega,fun k b=>by have:=c.cj k b;unfold maxLen;omega,fun k b=>by have:=c.cu k b;unfold maxLen;omega,fun k b s o=>by have:=f.rs k b s o;unfold maxLen;omega⟩,⟨Yp,fun p e=>by have:=n p e;unfold maxLen;omega,fun p e=>by have:=f.fo p e;unfold maxLen;omega⟩,⟨Yp,fun l m=>by have:=f.fy l m;unfold maxLen;omega⟩,fun k b=> ?_,Yv⟩
 have:=f.b1 k b;simp[Lit.wf,IntKind.min,IntKind.max,IntKind.signed,IntKind.bits];omega
theorem Dw.jn{v:Vd}(h:Dw v r):RX v.wd v.C v.ks v.ps v.ls/\PN v.ps:=by have c:RX v.wd r.C r.ks r.ps r.ls:=h.run.rx (Ff h.wd.1 h.wd.2) ⟨by simp[r0],by simp[r0],by simp[r0],by simp[r0],by simp[r0]⟩;have b:=h.run.pn (by intro p g;cases g);obtain⟨⟨_,_,_,d⟩,e,a,f⟩:=h.same;rw[d,e,a,f]at c;rw[a]at b;exact⟨c,b⟩
def Ki(a b:Zi):Bool:=Op.bytesLess a.toList b.toList
def Dz:Zl->Zi->Nat
 |[],_=>0
 |y::l,x=>if Ki y x=true then Dz l x+1 else 0
theorem UT(l:Zl)(x:Zi):Dz l x<=l.length:=by
 induction l with
 |nil=>simp[Dz]
 |cons y l ih=>unfold Dz;split<;>simp;omega
theorem LQ(h:∀i y,i<j->l[i]?=some y->Ki y x=true)(c:∀y,l[j]?=some y->Ki y x=false)(a:j<=l.length):Dz l x=j:=by
 induction l generalizing j with
 |nil=>simp at a;simp[Dz,a]
 |cons y l ih=>
  unfold Dz;cases j with
  |zero=>rw[if_neg (by rw[c y rfl];decide)]
  |succ j=>rw[if_pos (h 0 y Yv rfl),ih (j:=j) (fun i z d b=>h (i+1) z Yv (by simpa using b)) (fun z b=>c z (by simpa using b)) (by simpa using a)]
def CM(l:Zl)(x:Zi):Zl:=if l[Dz l x]?=some x then l else l.take (Dz l x)++[x]++l.drop (Dz l x)
def Bg(ss:Zl):Zl:=ss.foldl CM []
theorem OO(l:Zl)(x:Zi):(CM l x).length<=l.length+1:=by
 unfold CM;split
 .omega
 .have:=UT l x;simp;omega
theorem NT(h:y∈CM l x):y∈l\/y=x:=by
 unfold CM at h;split at h
 .exact .inl h
 .simp only[List.mem_append,List.mem_singleton]at h;rcases h with(h|h)|h
  .exact .inl (List.mem_of_mem_take h)
  .exact .inr h
  .exact .inl (List.mem_of_mem_drop h)
theorem Pq(b:Zl):∀a:Zl,(b.foldl CM a).length<=a.length+b.length/\∀y∈b.foldl CM a,y∈a\/y∈b:=by
 induction b with
 |nil=>intro a;exact⟨Yu,fun y c=> .inl c⟩
 |cons x b ih=>
  intro a;obtain⟨e,d⟩:=ih (CM a x);have:=OO a x;refine⟨by simp only[List.foldl_cons,List.length_cons];omega,fun y c=> ?_⟩;rcases d y c with h|h
  .rcases NT h with h|h
   .exact .inl h
   .exact .inr (by simp[h])
  .exact .inr (by simp[h])
theorem Ea(a:Zl):(Bg a).length<=a.length:=by simpa [Bg]using (Pq a []).1
theorem RS{a:Zl}(h:y∈Bg a):y∈a:=by
 rcases(Pq a []).2 y h with h|h
 .cases h
 .exact h
theorem Qx{a:Zl}(h:a[k]?=some x):Bg (a.take (k+1))=CM (Bg (a.take k)) x:=by obtain⟨b,rfl⟩:=Zw h;unfold Bg;rw[Zu b,List.foldl_append];rfl
theorem Gh(a:Zk)(cap:Nat)(f:Zl)(w:Zh)(hr:Ab w w.heap.size a f)(hl:f.length<=100000):
 Calls prog 34 #[.slice a f.length cap] w fun e w'=>∃g c,e=.returned (Yz g (Bg f).length c)/\
  w'.ownsRow w.heap.size 9 1 (Yz g (Bg f).length c) (Bg f).length ((Bg f).map Value.string)/\Zz w w':=by
 obtain⟨i0,J,M,N,P⟩:=info_parts BW;have yN:=Yw hr;clear hr;have yJ:Below w.heap.size w (w.alloc (.cells #[] 9)):=Zy;have oA:(w.alloc (.cells #[] 9)).ownsRow w.heap.size 9 1 (Yz w.heap.size 0 0) 0 (([]:Zl).map Value.string):=World.ownsRow_lit w #[] 0 (Zx) Yp rfl;have yH:=Yw (Zn yJ oA);clear yJ oA;go_enter func34,ntmps34;go_wp2
 go_loopw [3,4] (fun v i wr=>∃(k g c:Nat),k<=f.length/\i=Zg k/\v=Yz g (Bg (f.take k)).length c/\Hid (wr.ownsRow w.heap.size 9 1 (Yz g (Bg (f.take k)).length c) (Bg (f.take k)).length ((Bg (f.take k)).map Value.string))/\Hid (Zz w wr)) (fun _ i _=>f.length -(intOf i).toNat)
 case atStart=>exact⟨0,w.heap.size,0,Nat.zero_le _,rfl,rfl,yH.o.2,yH.o.1⟩
 case round=>
  obtain⟨k,g,c,hk,rfl,rfl,HO,Z⟩:=hrel;by_cases hlt:k<f.length
  .have HG:Hid (f[k]?=some f[k]):=Zv hlt;obtain⟨I,oa,ha,yV,yK⟩:=(Ab.below yN.o Z.o).at hlt;subst ha;have cx:=yK k _ HG.o;have HS:=Yw (Qx HG.o);have hlen:(Bg (f.take k)).length<=k:=by have:=Ea (f.take k);simp at this;omega
   have yY:=Z.o.size;have zP:I<wr.heap.size:=Yv
   generalize f[k]=x at *
   generalize hO:Bg (f.take k)=O at *
   have yL:=(HO.o.lt g rfl).2;have yX:=(HO.o.lt g rfl).1;have zX:Hid (∀j y,O[j]?=some y->wr.cell? (Zd g j)=some (.string y)):=by
    intro j y B;have:=Ab.own HO.o;rcases this with h|⟨b',off,e1,_,h3⟩
    .subst h;simp at B
    .cases e1;simpa using h3 j y B
   clear yK;go_wp2
   go_loopw [5] (fun v yU=>∃j:Nat,j<=O.length/\v=Zg j/\(∃nq,yU=wr.drewN nq)/\Hid (∀i y,i<j->O[i]?=some y->Ki y x=true)) (fun v _=>O.length -(intOf v).toNat)
   case atStart=>exact⟨0,Nat.zero_le _,rfl,⟨0,rfl⟩,fun i y h=>by omega⟩
   case round=>
    obtain⟨j,hj,rfl,⟨nq,rfl⟩,HJ⟩:=hrel;by_cases hjl:j<O.length
    .have HY:Hid (O[j]?=some O[j]):=Zv hjl;have cy:=zX.o j _ HY.o;generalize O[j]=y at *
     have d1:decide ((j:Int)<(O.length:Int))=true:=Yt
     cases hb:Ki y x with
     |true=>
      have yQ:Op.bytesLess y.toList x.toList=true:=hb;have yM:Hid (∀i z,i<j+1->O[i]?=some z->Ki z x=true):=by
       intro i z J hz;rcases Nat.lt_or_ge i j with h|h
       .exact HJ.o i z h hz
       .obtain rfl:i=j:=Yv
        rw[HY.o]at hz;cases hz;exact hb
      clear hb;go_upto_region 6 with fail;go_quiet (fail);go_wp2;exact⟨⟨j+1,Yv,Yo,⟨_,rfl⟩,yM⟩,by simp[intOf];omega⟩
     |false=>
      have yQ:Op.bytesLess y.toList x.toList=false:=hb;have zR:Hid (∀z,O[j]?=some z->Ki z x=false):=by intro z hz;rw[HY.o]at hz;cases hz;exact hb
      clear hb;go_upto_region 6 with fail;go_quiet (fail);by_cases hyx:y=x
      .have HE:Hid (Bg (f.take (k+1))=O):=by show _=_;rw[HS.o];unfold CM;rw[LQ HJ.o zR.o hj,if_pos (by rw[HY.o,hyx])]
       subst hyx;go_upto_region 8 with fail;go_quiet (fail);go_wp2;refine⟨⟨k+1,g,c,Yv,Yo,by rw[HE.o],?_,?_⟩,by simp[intOf];omega⟩
       .rw[HE.o];exact HO.o.kept (Ae none (AM (Below.refl _ _) _)) (Classical.em _)
       .exact AM Z.o _
      .have zU:Hid (¬O[j]?=some x):=by show ¬_;rw[HY.o];intro e;cases e;exact hyx rfl
       have e1:(y.toList==x.toList)=false:=by rw[beq_eq_false_iff_ne];intro h;rw[ByteArray.toList_eq,ByteArray.toList_eq]at h;exact hyx (ByteArray.ext (Array.toList_inj.1 h))
       clear hyx;go_upto_region 8 with fail;go_quiet (fail);go_upto_region 9 with fail;have HP:Hid (Dz O x=j):=LQ HJ.o zR.o hj;have HE:Hid (Bg (f.take (k+1))=O.take j++[x]++O.drop j):=by show _=_;rw[HS.o];unfold CM;rw[HP.o,if_neg zU.o]
       generalize hW:(((wr.drewN _).drewN _).drewN _)=W;have o:Hid (Zz wr W):=by rw[<-hW];exact AM (AM (AM (Below.refl _ _) _) _) _
       have zB:Hid (Zz w W):=Z.o.trans (o.o.mono Z.o.size);have zW:Hid (W.ownsRow w.heap.size 9 1 (Yz g O.length c) O.length (O.map Value.string)):=HO.o.kept (Ae none o.o) (Classical.em _);have yT:wr.heap.size<=W.heap.size:=o.o.size;have zJ:g<W.heap.size:=Yv
       have yA:I<W.heap.size:=Yv
       have zF:W.cell? (Zd I (oa+k))=some (.string x):=(o.o.cell (p:=⟨I,oa+k,none⟩) zP).trans cx;have zC:Hid (∀i y,O[i]?=some y->W.cell? (Zd g i)=some (.string y)):=fun i y B=>(o.o.cell (p:=⟨g,i,none⟩) yL).trans (zX.o i y B);have Q:Hid (O.length<=c):=by
        rcases zW.o.2 with⟨hv,_⟩|⟨_,_,_,hv,_,_,D,_⟩
        .cases hv
        .cases hv;exact D
       have D:O.length<=c:=Q.o;have yW:¬c=j:=Yv
       clear hW cx;go_wp2_with (first
        |(at_builtin;refine wpList_append_own_at _ rfl _ _ 29 rfl w.heap.size 9 i0 Zc 1 16 underlying29 J M N P rfl Yr _ 0 [] rfl ?d0 ⟨g,0,none⟩ j c ((O.take j).map Value.string) rfl ?dl ?d1 ?d2 ?d3 ?d4 ?d5 ?_))
       case d0=>exact World.ownsRow_lit W #[] 0 Yv Yp rfl
       case dl=>first|(simp;done)|(simp;omega)
       case d1=>
        intro i u r;rw[List.getElem?_map]at r;cases d:(O.take j)[i]? with
        |none=>rw[d]at r;cases r
        |some y=>
         rw[d]at r;cases r;have B:O[i]?=some y:=by
          rw[List.getElem?_take]at d;split at d
          .exact d
          .cases d
         have:=zC.o i y B;rw[Go.WideShapes.add_plain,Nat.zero_add];exact(((Below.refl W.heap.size W).alloc (Zx) _).cell (p:=⟨g,i,none⟩) zJ).trans this
       case d2=>intro u r;obtain⟨s,_,rfl⟩:=List.mem_map.1 r;rfl
       case d3=>unfold maxLen;omega
       case d4=>omega
       case d5=>simp;omega
       intro v' V b m E zG;obtain⟨l,G,yC⟩:∃l G,v'=Yz l j G:=by
        rcases Joins.ownsRow_forms b with⟨e1,_⟩|hf
        .exact(E e1).elim
        .exact hf
       subst yC;try simp only[Nat.zero_add,List.nil_append]at b
       have q:Below W.heap.size W V:=((Below.refl W.heap.size W).alloc (Zx) _).grown m Yu (fun i J=>by simp[Value.ownBlock]at J;omega);have yS:W.heap.size<=V.heap.size:=q.size;have yO:V.cell? (Zd I (oa+k))=some (.string x):=(q.cell (p:=⟨I,oa+k,none⟩) yA).trans zF
       have yI:Hid (∀i y,O[i]?=some y->V.cell? (Zd g i)=some (.string y)):=fun i y B=>(q.cell (p:=⟨g,i,none⟩) zJ).trans (zC.o i y B);have zY:=Yw q;have zM:V.ownsRow w.heap.size 9 1 (Yz l j G) j ((O.take j).map Value.string):=by
        first|exact b|(rw[List.map_take];exact b)|(rw[List.take_length];exact b)
       have zV:=Yw zM;clear zM;have zI:=b.lt l rfl;have zS:=Yw zG;clear b m E q zF zG;try simp only[Nat.zero_add]
       go_upto_region 10 with fail;have H:Below V.heap.size V (V.alloc (.cells #[.string x] 9)):=Zy;have zO:(V.alloc (.cells #[.string x] 9)).drew.ownsRow w.heap.size 9 1 (Yz l j G) j ((O.take j).map Value.string):=zV.o.kept (Ae none H.drew) (Classical.em _)
       have zN:∀A,(some ⟨V.heap.size,0,none⟩:Zk)=some A->∀i s,[x][i]?=some s->(V.alloc (.cells #[.string x] 9)).drew.cell? (A.add i)=some (.string s):=by
        intro A e i s d;injection e with e;subst e;cases i with
        |zero=>simp at d;subst d;simp[Addr.add]
        |succ i=>simp at d
       have zZ:(O.drop j).length=O.length -j:=Yu
       have yP:(O.take j).length=j:=Yn
       have yD:w.heap.size<=V.heap.size:=Yv
       have F:w.heap.size<=(V.alloc (.cells #[.string x] 9)).drew.heap.size:=Yt
       have U:w.heap.size<=l:=zI.1;have yR:g<l:=by rcases zS.o with h|h<;>simp[Value.ownBlock]at h<;>omega
       have yE:l<V.heap.size:=zI.2;have zE:∀n:Zh,(V.alloc (.cells #[.string x] 9)).drew.grownBy n (some l)->∀A,(some ⟨g,j,none⟩:Zk)=some A->∀i s,(O.drop j)[i]?=some s->n.cell? (A.add i)=some (.string s):=by intro n t A e i s d;injection e with e;subst e;rw[List.getElem?_drop]at d;have hc:=yI.o _ _ d;rw[Go.WideShapes.add_plain];refine(t.cell_far ⟨g,j+i,none⟩ Yt (fun e=>by have:=Option.some.inj e;simp at this;omega)).trans ?_;exact(H.drew.cell (p:=⟨g,j+i,none⟩) Yt).trans hc
       go_region_law (first
        |(refine Av (V.alloc (.cells #[.string x] 9)).drew rfl (.tmp 51) (.tmp 56) 29 rfl w.heap.size 9 i0 Zc 16 underlying29 J M N P rfl l j G (O.take j) rfl zO (some ⟨V.heap.size,0,none⟩) 1 1 [x] rfl rfl (fun e=>by cases e) zN Yp Yv Yt ?_;intro k5 R n L t S X;have z5:w.heap.size<=n.heap.size:=Zm F t.size;have Y:=X)
        |(have zA:=Y;refine Av n rfl (.tmp 57) (.tmp 60) 29 rfl w.heap.size 9 i0 Zc 16 underlying29 J M N P rfl k5 (j+1) R (O.take j++[x]) rfl L (some ⟨g,j,none⟩) (O.length -j) (c -j) (O.drop j) rfl zZ (fun e=>by cases e) (zE n t) Yp Yv z5 ?_;intro k6 C w6 zK zH T yF))
       all_goals
        have yB:w.heap.size<=k5:=(L.lt k5 rfl).1;have b5:Below w.heap.size V n:=(H.drew.mono yD).grown t F (fun i e=>by cases e;exact U);have b6:Below w.heap.size V w6:=b5.grown zH z5 (fun i e=>by cases e;exact yB);have HF:Hid (Zz w w6):=(zB.o.trans (zY.o.mono (by have:=zB.o.size;omega))).trans (b6.mono (Zx));have K:(O.take j++[x]++O.drop j).length=j+1+(O.length -j):=Yn
        have HN:Hid (w6.ownsRow w.heap.size 9 1 (Yz k6 (O.take j++[x]++O.drop j).length C) (O.take j++[x]++O.drop j).length ((O.take j++[x]++O.drop j).map Value.string)):=by rw[K];exact zK
        have zT:=Yw K;clear zK zH T L t S K zO zN zE b5 b6 H;go_wp2;refine⟨⟨k+1,k6,C,Yv,Yo,by rw[HE.o,zT.o],?_,HF.o⟩,by simp[intOf];omega⟩;rw[HE.o];exact HN.o
    .obtain rfl:j=O.length:=Yv
     have d1:decide ((O.length:Int)<(O.length:Int))=false:=Yu
     have zR:Hid (∀z,O[O.length]?=some z->Ki z x=false):=by intro z hz;simp at hz
     have zU:Hid (¬O[O.length]?=some x):=by show ¬_;simp
     go_upto_region 6 with fail;go_quiet (fail);go_upto_region 8 with fail;go_quiet (fail);go_upto_region 9 with fail;have HP:Hid (Dz O x=O.length):=LQ HJ.o zR.o hj;have HE:Hid (Bg (f.take (k+1))=O.take O.length++[x]++O.drop O.length):=by show _=_;rw[HS.o];unfold CM;rw[HP.o,if_neg zU.o]
     generalize hW:(((wr.drewN _).drewN _).drewN _)=W;have o:Hid (Zz wr W):=by rw[<-hW];exact AM (AM (AM (Below.refl _ _) _) _) _
     have zB:Hid (Zz w W):=Z.o.trans (o.o.mono Z.o.size);have zW:Hid (W.ownsRow w.heap.size 9 1 (Yz g O.length c) O.length (O.map Value.string)):=HO.o.kept (Ae none o.o) (Classical.em _);have yT:wr.heap.size<=W.heap.size:=o.o.size;have zJ:g<W.heap.size:=Yv
     have yA:I<W.heap.size:=Yv
     have zF:W.cell? (Zd I (oa+k))=some (.string x):=(o.o.cell (p:=⟨I,oa+k,none⟩) zP).trans cx;have zC:Hid (∀i y,O[i]?=some y->W.cell? (Zd g i)=some (.string y)):=fun i y B=>(o.o.cell (p:=⟨g,i,none⟩) yL).trans (zX.o i y B);have Q:Hid (O.length<=c):=by
      rcases zW.o.2 with⟨hv,_⟩|⟨_,_,_,hv,_,_,D,_⟩
      .cases hv
      .cases hv;exact D
     have D:O.length<=c:=Q.o;clear hW cx;go_wp2_with (first
      |(at_builtin;refine wpList_append_own_at _ rfl _ _ 29 rfl w.heap.size 9 i0 Zc 1 16 underlying29 J M N P rfl Yr _ 0 [] rfl ?d0 ⟨g,0,none⟩ O.length c ((O.take O.length).map Value.string) rfl ?dl ?d1 ?d2 ?d3 ?d4 ?d5 ?_))
     case d0=>exact World.ownsRow_lit W #[] 0 Yv Yp rfl
     case dl=>first|(simp;done)|(simp;omega)
     case d1=>
      intro i u r;rw[List.getElem?_map]at r;cases d:(O.take O.length)[i]? with
      |none=>rw[d]at r;cases r
      |some y=>
       rw[d]at r;cases r;have B:O[i]?=some y:=by
        rw[List.getElem?_take]at d;split at d
        .exact d
        .cases d
       have:=zC.o i y B;rw[Go.WideShapes.add_plain,Nat.zero_add];exact(((Below.refl W.heap.size W).alloc (Zx) _).cell (p:=⟨g,i,none⟩) zJ).trans this
     case d2=>intro u r;obtain⟨s,_,rfl⟩:=List.mem_map.1 r;rfl
     case d3=>unfold maxLen;omega
     case d4=>omega
     case d5=>simp;omega
     intro v' V b m E zG;obtain⟨l,G,yC⟩:∃l G,v'=Yz l O.length G:=by
      rcases Joins.ownsRow_forms b with⟨e1,_⟩|hf
      .exact(E e1).elim
      .exact hf
     subst yC;try simp only[Nat.zero_add,List.nil_append]at b
     have q:Below W.heap.size W V:=((Below.refl W.heap.size W).alloc (Zx) _).grown m Yu (fun i J=>by simp[Value.ownBlock]at J;omega);have yS:W.heap.size<=V.heap.size:=q.size;have yO:V.cell? (Zd I (oa+k))=some (.string x):=(q.cell (p:=⟨I,oa+k,none⟩) yA).trans zF;have yI:Hid (∀i y,O[i]?=some y->V.cell? (Zd g i)=some (.string y)):=fun i y B=>(q.cell (p:=⟨g,i,none⟩) zJ).trans (zC.o i y B)
     have zY:=Yw q;have zM:V.ownsRow w.heap.size 9 1 (Yz l O.length G) O.length ((O.take O.length).map Value.string):=by
      first|exact b|(rw[List.map_take];exact b)|(rw[List.take_length];exact b)
     have zV:=Yw zM;clear zM;have zI:=b.lt l rfl;have zS:=Yw zG;clear b m E q zF zG;try simp only[Nat.zero_add]
     go_upto_region 10 with fail;have H:Below V.heap.size V (V.alloc (.cells #[.string x] 9)):=Zy;have zO:(V.alloc (.cells #[.string x] 9)).drew.ownsRow w.heap.size 9 1 (Yz l O.length G) O.length ((O.take O.length).map Value.string):=zV.o.kept (Ae none H.drew) (Classical.em _)
     have zN:∀A,(some ⟨V.heap.size,0,none⟩:Zk)=some A->∀i s,[x][i]?=some s->(V.alloc (.cells #[.string x] 9)).drew.cell? (A.add i)=some (.string s):=by
      intro A e i s d;injection e with e;subst e;cases i with
      |zero=>simp at d;subst d;simp[Addr.add]
      |succ i=>simp at d
     have zZ:(O.drop O.length).length=0:=Yu
     have yG:(if c=O.length then some ⟨g,0,none⟩else some ⟨g,O.length,none⟩:Zk)=none->(0:Nat)=0/\c -O.length=0:=by intro e;split at e<;>cases e
     have yP:(O.take O.length).length=O.length:=Yn
     have yD:w.heap.size<=V.heap.size:=Yv
     have F:w.heap.size<=(V.alloc (.cells #[.string x] 9)).drew.heap.size:=Yt
     have U:w.heap.size<=l:=zI.1;have yR:g<l:=by rcases zS.o with h|h<;>simp[Value.ownBlock]at h<;>omega
     have yE:l<V.heap.size:=zI.2;have zE:∀n:Zh,∀A,(if c=O.length then some ⟨g,0,none⟩else some ⟨g,O.length,none⟩:Zk)=some A->∀i s,(O.drop O.length)[i]?=some s->n.cell? (A.add i)=some (.string s):=by intro n A _ i s d;simp at d
     go_region_law (first
      |(refine Av (V.alloc (.cells #[.string x] 9)).drew rfl (.tmp 51) (.tmp 56) 29 rfl w.heap.size 9 i0 Zc 16 underlying29 J M N P rfl l O.length G (O.take O.length) rfl zO (some ⟨V.heap.size,0,none⟩) 1 1 [x] rfl rfl (fun e=>by cases e) zN Yp Yv Yt ?_;intro k5 R n L t S X;have z5:w.heap.size<=n.heap.size:=Zm F t.size;have Y:=X)
      |(have zA:=Y;refine Av n rfl (.tmp 57) (.tmp 60) 29 rfl w.heap.size 9 i0 Zc 16 underlying29 J M N P rfl k5 (O.length+1) R (O.take O.length++[x]) rfl L (if c=O.length then some ⟨g,0,none⟩else some ⟨g,O.length,none⟩) 0 (c -O.length) (O.drop O.length) rfl zZ yG (zE n) Yp Yv z5 ?_;intro k6 C w6 zK zH T yF))
     all_goals
      have yB:w.heap.size<=k5:=(L.lt k5 rfl).1;have b5:Below w.heap.size V n:=(H.drew.mono yD).grown t F (fun i e=>by cases e;exact U);have b6:Below w.heap.size V w6:=b5.grown zH z5 (fun i e=>by cases e;exact yB);have HF:Hid (Zz w w6):=(zB.o.trans (zY.o.mono (by have:=zB.o.size;omega))).trans (b6.mono (Zx));have K:(O.take O.length++[x]++O.drop O.length).length=O.length+1+0:=Yn
      have HN:Hid (w6.ownsRow w.heap.size 9 1 (Yz k6 (O.take O.length++[x]++O.drop O.length).length C) (O.take O.length++[x]++O.drop O.length).length ((O.take O.length++[x]++O.drop O.length).map Value.string)):=by rw[K];exact zK
      have zT:=Yw K;clear zK zH T L t S K zO zN zE b5 b6 H;go_wp2;refine⟨⟨k+1,k6,C,Yv,Yo,by rw[HE.o,zT.o],?_,HF.o⟩,by simp[intOf];omega⟩;rw[HE.o];exact HN.o
  .have he:k=f.length:=Yv
   subst he;rw[List.take_length]at HO |-;go_wp2;go_ret;exact⟨_,_,rfl,HO.o,Z.o⟩
theorem MY(b:Nat)(a:Zk)(n c:Nat)(p:Int)(w:Zh)(h:AE w b a n c p)(j:0<=p)(k:p<=900000):
 Calls prog 61 #[Yy b] w fun e i=>∃d,e=.returned (Zg d)/\(1<=d/\d<=8)/\AE i b a n c (p+1)/\w.grownBy i (some b):=by
 go_enter func61,ntmps61;go_wp2_with fail;refine(AU b a n c p 8 w h j Yv Yv Yv).mono ?_;rintro e m ⟨r,rfl,r0,l,g,f⟩;have H:=Yw (Zn g f);clear g f h;by_cases c1:r<2
 .go_wp2;go_ret;exact⟨1,rfl,Yv,H.o⟩
 .by_cases c2:r=2
  .subst c2;go_wp2;go_ret;exact⟨2,rfl,Yv,H.o⟩
  .have c3:(r==2)=false:=by simpa using c2
   go_wp2;go_ret;exact⟨8,rfl,Yv,H.o⟩
structure Ej (w w':Zh) (e:Ending) (b:Nat) (a:Zk) (n c:Nat) (p K:Int) (TX RF:Nat):Prop where
 ex:∃(t:Zi) (ra:Zk) (rc:Nat) (ss:Zl),e=.returned (.agg #[.string t,.slice ra ss.length rc])/\t.size<=TX/\ss.length<=RF/\(∀s∈ss,s.size<=8)/\
  w'.ownsRow w.heap.size 9 1 (.slice ra ss.length rc) ss.length (ss.map Value.string)
 dr:GN w w' b a n c p K
theorem Jw(l:List UInt8)(k:Nat):(Db l k).size=k:=by unfold Db;rw[DT,CP]
def Bz:Zj:=[Ze,Ze,Zb,Zb,Ze,Ze,Ze,Ze,Zb,Zb,Zb,Ze,Zb,Zb,Ze,Ze,Ze]
theorem LR(w:Zh)(b:Nat)(v:Value)(f d:List (Kd×Value))(l:w.ownsRow b 37 4 v f.length (Ai kC f))(k:Zk)(c:Nat)(o:k=none->d.length=0/\c=0)(H:∀A,k=some A->∀j u,(Ai kC d)[j]?=some u->w.cell? (A.add j)=some u)(K:∀z∈d,∃a n c,z.2=.slice a n c)(M:f.length<=1000000)(L:d.length<=1000000)(h:b<=w.heap.size)(t:v≠.slice none 0 0)(q:TypeId):
 ∃g cap i,(Builtin.append_ #[23,23] q #[v,.slice k d.length c]).run prog w=.ok (.slice (some ⟨g,0,none⟩) (f.length+d.length) cap) i/\i.ownsRow b 37 4 (.slice (some ⟨g,0,none⟩) (f.length+d.length) cap) (f++d).length (Ai kC (f++d))/\w.grownBy i v.ownBlock:=by
 obtain⟨x,s,y,B,C⟩:=info_parts Hz;cases k with
 |none=>obtain⟨E,rfl⟩:=o rfl;have J:=List.eq_nil_of_length_eq_zero E;subst J;obtain⟨g,cap,rfl,_,_⟩:=Cs l t;exact⟨g,cap,w,run_append_owned_none (P:=prog) w b 23 q 37 x 4 underlying23 s _ _ _ l,by rw[List.append_nil];exact l,⟨rfl,rfl,rfl,Zx,fun _ _ _=>rfl⟩⟩
 |some A=>
  obtain⟨N,i,I,r,F,G,_⟩:=run_append_own_at (P:=prog) w b 23 q 37 x _ 4 64 underlying23 s y B C rfl (by decide) v f.length (Ai kC f) l A d.length c (Ai kC d) (EN Ce _) (H A rfl) (fun u m=>by
   obtain⟨z,D,m⟩:=List.mem_flatMap.1 m;obtain⟨a,n,c,e⟩:=K z D;simp[kC,e]at m;rcases m with rfl|rfl|rfl|rfl<;>rfl) (by unfold maxLen;omega) (by omega) h
  obtain⟨g,cap,rfl,_,_⟩:=Cs r (fun e=>t (G.1 e).1);exact⟨g,cap,i,I,by rw[Ex,List.length_append];exact r,F⟩
theorem CA{P:Program}{o:Oper}{a:Act}{K:Act->Zh->Prop}{Q:Exit->Act->Zh->Prop}(b x:Operand)(t:TypeId)(e:o.op=.call {callee:=.builtin .append,args:= #[b,x],argTypes:= #[t,t]}){v u c:Value}{d:Zh}(g:a.eval b=v)(i:a.eval x=u)(f:(Builtin.append_ #[t,t] o.type #[v,u]).run P w=.ok c d)(h:K (a.put o.dst c) d):Oper.wp P o a w K Q:=by unfold Oper.wp execOp;simp only[e,resolve,invoke,builtin,Sem.run_bind,Sem.run_pure,Result.andThen_ok,List.map_toArray,List.map_cons,List.map_nil,g,i,f];exact h
structure Mz (base:Nat) (X:Zh) (n:Nat) (z:Kd×Value):Prop where
 row:X.ownsRow base 9 1 z.2 z.1.B.length (z.1.B.map Value.string)
 sm:z.1.sum.size<=8
 tx:z.1.E.size<=10
 rl:z.1.B.length<=1
 rs:∀s∈z.1.B,s.size<=8
 bo:0<=z.1.born/\z.1.born<=n
structure MM (w wr:Zh) (n:Nat) (T:Value) (zs:List (Kd×Value)):Prop where
 ig:Aa wr w.heap.size z7
 box:Aa wr (w.heap.size+1) [Zg 8,Ze,Ze,Zg n,T,Zb,Zb]
 ow:wr.ownsRow (w.heap.size+2) 37 4 T zs.length (Ai kC zs)
 zz:∀z∈zs,Mz (w.heap.size+2) wr n z
 bl:Below w.heap.size w wr
theorem Mz.below{base:Nat}{z:Kd×Value}(h:Mz base w n z)(a:Zz w X):Mz base X n z:=⟨Ap h.row a,h.sm,h.tx,h.rl,h.rs,h.bo⟩
theorem MM.below{wr:Zh}{b:List (Kd×Value)}(h:MM w wr n T b)(a:Zz wr X):MM w X n T b:=
 ⟨Aa.below h.ig a,Aa.below h.box a,Ap h.ow a,fun z c=>(h.zz z c).below a,h.bl.trans (a.mono h.bl.size)⟩
theorem Hs{c:Nat}{a:List (Kd×Value)}(h:w.ownsRow c 37 4 T a.length (Ai kC a))(n:k<=a.length):T=Zb/\a=[]\/∃g cap,T=Yz g a.length cap/\c<=g/\g<w.heap.size/\a.length<=cap/\cap<=maxLen/\(∀j u,(Ai kC (a.take k))[j]?=some u->w.cell? ((⟨g,0,none⟩:Addr).add j)=some u)/\∃off,(if cap=k then some (⟨g,0,none⟩:Addr)else some ⟨g,k *4,none⟩)=some ⟨g,off,none⟩/\∀j u,(Ai kC (a.drop k))[j]?=some u->w.cell? (Zd g (off+j))=some u:=by
 rcases h.2 with⟨e,f⟩|⟨g,cap,o,e,m,s,i,l,q,r⟩
 .exact .inl ⟨e,List.eq_nil_of_length_eq_zero f⟩
 .subst e;refine .inr ⟨g,cap,rfl,m,(h.lt g rfl).2,i,l,fun j u b=> ?_,?_⟩
  .rw[Go.WideShapes.add_plain,Nat.zero_add];have d:=(Zw b).1;rw[EN Ce,List.length_take]at d;rw[h.cellAt j Yv];rw[<-List.take_append_drop k a,FZ,List.getElem?_append_left (by rw[EN Ce,List.length_take];omega)];exact b
  .by_cases hc:cap=k
   .refine⟨0,by rw[if_pos hc],fun j u b=> ?_⟩;rw[List.drop_of_length_le Yv]at b;simp[Ai]at b
   .refine⟨k *4,by rw[if_neg hc],fun j u b=> ?_⟩;rw[<-SH Ce a k n,List.getElem?_drop]at b;have d:=(Zw b).1;rw[EN Ce]at d;exact(h.cellAt _ Yv).trans b
theorem Gz{f:Nat}{b:Zl}(h:w.ownsRow a 9 1 (.slice c n f) b.length (b.map Value.string)):Ab w w.heap.size c b:=by
 rcases h.2 with⟨_,d⟩|⟨g,cap,i,e,_⟩
 .exact .inl (List.eq_nil_of_length_eq_zero d)
 .cases e;exact Ab.own h
structure VK (w:Zh) (n:Nat) (e:Ending) (w':Zh):Prop where
 ex:∃T zs,e=.returned (.agg #[Zg 8,Ze,Ze,Zg n,T,Zb,Zb])/\w'.ownsRow (w.heap.size+2) 37 4 T zs.length (Ai kC zs)/\(∀z∈zs,Mz (w.heap.size+2) w' n z)/\zs.length<=n/\Zz w w'
theorem NU(n:Nat)(apart:Bool)(w:Zh)(hn:n<=1000):
 Calls prog 45 #[.int .i64 n,.bool apart] w (VK w n):=by
 obtain⟨W,hW⟩:∃W,W=(w.alloc (.cells #[.int .i64 0,.int .i64 0,.int .i64 0,.int .i64 0,.slice none 0 0,.slice none 0 0,.slice none 0 0] 27)).alloc (.cells #[.int .i64 8,.int .i64 0,.int .i64 0,.int .i64 n,.slice none 0 0,.slice none 0 0,.slice none 0 0] 27):=⟨_,rfl⟩;have hb:Below w.heap.size w W:=by rw[hW];exact(Zy).alloc (by simp) _
 have F:Hid (MM w W n (.slice none 0 0) []):=by
  refine⟨?_,?_,World.ownsRow_nil _ _ _ _,by simp,hb⟩
  .rw[hW];exact Aa.below (Aa.new w z7 27) (Zy)
  .have B:=Aa.new (w.alloc (.cells #[.int .i64 0,.int .i64 0,.int .i64 0,.int .i64 0,.slice none 0 0,.slice none 0 0,.slice none 0 0] 27)) [.int .i64 8,.int .i64 0,.int .i64 0,.int .i64 n,.slice none 0 0,.slice none 0 0,.slice none 0 0] 27;rw[World.size_alloc]at B;rw[hW];exact B
 have HW:Hid _:=hW;clear hW hb;go_enter func45,ntmps45;go_upto_region 2 with fail;rw[<-HW.o];clear HW;go_wp2
 go_loopw [6,7] (fun lv i wr=>∃(k:Nat) (last:Zi) (T:Value) (b:List (Kd×Value)),i=.int .i64 (k:Int)/\lv=.string last/\1<=k/\k<=n+1/\last.size<=8/\b.length<k/\Hid (MM w wr n T b)) (fun _ i _=>n+1 -(intOf i).toNat)
 case atStart=>exact⟨1,_,_,[],rfl,rfl,by omega,by omega,by decide,by simp,F⟩
 case round=>
  clear F;obtain⟨k,last,T,b,rfl,rfl,xG,xH,yV,xL,F⟩:=hrel;by_cases hk:k<=n
  .have HD:Hid _:=UD 9 k wr (by omega) (by have:(10:Int)^9=1000000000:=rfl;omega) (by omega);go_wp2_with fail;refine Calls.mono HD.o ?_;clear HD;rintro e w1 ⟨t,rfl,yX,zP⟩;obtain⟨N,zI⟩:∃X,X=w1.alloc (.cells #[.string t,.slice none 0 0] 35):=⟨_,rfl⟩;have yF:=(Bc zI).1;have yR:=(Bc zI).2.1;have yH:Aa N w1.heap.size [.string t,.slice none 0 0]:=(Bc (l:=[.string t,.slice none 0 0]) zI).2.2
   have yG:Below wr.heap.size wr N:=zP.trans (yF.mono zP.size);have zC:Hid (Zz wr N/\Aa N w1.heap.size [.string t,.slice none 0 0]/\wr.heap.size<=w1.heap.size/\N.heap.size=w1.heap.size+1):=⟨yG,yH,zP.size,yR⟩;have yE:Hid _:=zI;clear zI yF yR yH yG zP;go_upto_region 7 with fail;rw[<-yE.o];clear yE;go_cut [26] (fun v V=>∃c:Bool,v=.bool c/\V=N)
   case first=>
    cases apart with
    |true=>go_wp2;go_meet;exact⟨_,rfl,rfl⟩
    |false=>go_wp2;go_meet;exact⟨_,rfl,rfl⟩
   revert wc;rintro N ⟨cc,rfl,rfl⟩
   go_upto_if 26 with fail
   go_cut [8,26] (fun v _ V=>∃(o:Nat) (rv:Value) (d:Zl),v=.pointer (some ⟨o,0,none⟩)/\Hid (Aa V o [.string t,rv]/\V.ownsRow (w.heap.size+2) 9 1 rv d.length (d.map Value.string)/\d.length<=1/\(∀s∈d,s.size<=8)/\Zz wr V))
   case first=>
    cases cc with
    |true=>
     obtain⟨Y,hY⟩:∃Y,Y=N.setCell ⟨w1.heap.size,1,none⟩ (.slice (some ⟨N.heap.size,0,none⟩) 1 1):=⟨_,rfl⟩;have b2:Below Y.heap.size Y (Y.alloc (.cells #[.string last] 9)):=Zy;have zY:Y.heap.size=N.heap.size:=by rw[hY];simp
     have HS:Hid (Zz wr (Y.alloc (.cells #[.string last] 9))/\Aa (Y.alloc (.cells #[.string last] 9)) w1.heap.size [.string t,.slice (some ⟨N.heap.size,0,none⟩) 1 1]/\(Y.alloc (.cells #[.string last] 9)).ownsRow (w.heap.size+2) 9 1 (.slice (some ⟨N.heap.size,0,none⟩) 1 1) 1 [Value.string last]):=by
      obtain⟨B,O,h3,h4⟩:=zC.o;have h5:Below wr.heap.size wr Y:=by rw[hY];exact B.setCell (p:=⟨w1.heap.size,1,none⟩) h3 _
      have h6:Aa Y w1.heap.size [.string t,.slice (some ⟨N.heap.size,0,none⟩) 1 1]:=by rw[hY];exact O.set 1 _
      refine⟨h5.trans (b2.mono h5.size),Aa.below h6 b2,?_⟩;rw[<-zY];refine World.ownsRow_lit (base:=w.heap.size+2) (e:=9) (size:=1) Y #[.string last] 1 ?_ (by unfold maxLen;omega) rfl;have:=F.o.bl.size;have:=F.o.box.lt;omega
     obtain⟨c0,q0⟩:=zC.o.2.1 0 _ rfl;obtain⟨c1,q1⟩:=zC.o.2.1 1 _ rfl;have zG:w1.heap.size<N.heap.size:=zC.o.2.1.lt;subst hY;clear b2 zY;go_wp2;go_meet;exact⟨_,_,[last],rfl,HS.o.2.1,HS.o.2.2,by simp,by simp;omega,HS.o.1⟩
    |false=>go_wp2;go_meet;exact⟨_,_,[],rfl,zC.o.2.1,World.ownsRow_nil _ _ _ _,by simp,by simp,zC.o.1⟩
   case rest=>
    revert wc;intro w2 hcut;obtain⟨o,rv,d,rfl,Z⟩:=hcut;clear zC;obtain⟨U,rc,yW⟩:=Ax Z.o.2.1;subst yW;have yI:Ab w2 w2.heap.size U d:=Gz Z.o.2.1;have HF:Hid _:=EL t U rc d 8 w2 yI (by have:=Z.o.2.2.1;omega) (by unfold maxLen;omega);obtain⟨c0,_⟩:=Z.o.1 0 _ rfl;obtain⟨c1,_⟩:=Z.o.1 1 _ rfl;clear yI;go_wp2_with fail;refine Calls.mono HF.o ?_;rintro e w3 ⟨rfl,yA⟩
    have yD:Hid _:=Fl (AB t d 8) 8 w3 (Dq _ _ _) (by omega) (by omega);have xK:(Db (AB t d 8).data.toList (8:Int).toNat).size=8:=Jw _ _;generalize AB t d 8=FF at *
    generalize Db FF.data.toList (8:Int).toNat=S at *
    go_wp2_with fail;refine Calls.mono yD.o ?_;rintro e f ⟨rfl,yJ⟩;have zB:Below w2.heap.size w2 f:=yA.trans (yJ.mono yA.size);have D:Hid (MM w f n T b):=(F.o.below Z.o.2.2.2.2).below zB;have zT:Hid (Aa f o [.string t,.slice U d.length rc]/\Mz (w.heap.size+2) f n (⟨S,k,t,d⟩,.slice U d.length rc)):=⟨Aa.below Z.o.1 zB,⟨Ap Z.o.2.1 zB,by simp only;omega,yX,Z.o.2.2.1,Z.o.2.2.2.1,by simp only;omega⟩⟩
    clear HF yD yA yJ zB Z F c0 c1 yV;obtain⟨ta,tc,C⟩:=Ax D.o.ow;subst C;go_wp2
    go_loopw [9] (fun j V=>∃m:Nat,m<=b.length/\j=.int .i64 (m:Int)/\V=f) (fun j _=>b.length -(intOf j).toNat)
    case atStart=>exact⟨0,by omega,rfl,rfl⟩
    case round=>
     obtain⟨m,hm,rfl,rfl⟩:=hrel;obtain⟨b4,_⟩:=D.o.box 4 _ rfl;go_upto_region 11 with fail;go_cut [47] (fun v V=>∃c:Bool,v=.bool c/\(c=true->m<b.length)/\V=wr)
     case first=>
      by_cases zG:m<b.length
      .rcases Hs D.o.ow hm with⟨_,e⟩|⟨g,cap,e,_,hg,yL,zR,_⟩
       .rw[e]at zG;simp at zG
       .cases e;have hx:=Zv zG;have c0:=D.o.ow.cellAt (m *4) (by omega);have zX:=Cd Ce hx (show 0<4 by decide);rw[Nat.add_zero]at zX;rw[zX]at c0;generalize b[m]=z at *
        have c1:wr.cell? ⟨g,m *4,none⟩=some (.string z.1.sum):=c0;clear hx zX c0;go_wp2;go_meet;exact⟨_,rfl,fun _=>zG,rfl⟩
      .go_wp2;go_meet;exact⟨_,rfl,(fun h=>by cases h),rfl⟩
     revert wc;rintro f ⟨cc,rfl,yM,rfl⟩;cases cc with
     |true=>have zG:=yM rfl;go_wp2;exact⟨⟨m+1,by omega,by go_num,by first|trivial|rfl⟩,by simp[intOf];omega⟩
     |false=>
      clear yM;obtain⟨A,R⟩:∃A,A=f.alloc (.cells #[] 37):=⟨_,rfl⟩;have bA:=(Bc (l:=[]) R).1;have zA:=(Bc (l:=[]) R).2.1;have oA:A.ownsRow f.heap.size 37 4 (.slice (some ⟨f.heap.size,0,none⟩) 0 0) ([]:List (Kd×Value)).length (Ai kC []):=by rw[R];exact World.ownsRow_lit (base:=f.heap.size) (e:=37) (size:=4) f #[] 0 (Zx) (by unfold maxLen;omega) rfl
      have zU:Hid (MM w A n (.slice ta b.length tc) b):=D.o.below bA;have HZ:Hid (∀z∈b,∃a n c,z.2=.slice a n c):=fun z J=>by obtain⟨a,c,e⟩:=Ax (D.o.zz z J).row;exact⟨a,_,c,e⟩
      have zH:f.heap.size<=A.heap.size:=by omega
      obtain⟨yS,_⟩:=zU.o.box 4 _ rfl;have zV:Hid _:=oA;have zS:Hid (Zz f A):=bA;clear oA bA;go_upto_region 13 with fail;go_cut [10] (fun v V=>∃g c,v=.slice (some ⟨g,0,none⟩) m c/\Hid (V.ownsRow f.heap.size 37 4 (.slice (some ⟨g,0,none⟩) m c) (b.take m).length (Ai kC (b.take m))/\Zz f V))
      case first=>
       have hl:(b.take m).length=m:=by rw[List.length_take];omega
       have yO:Value.slice (some ⟨f.heap.size,0,none⟩) 0 0≠.slice none 0 0:=fun e=>by cases e
       rcases Hs zU.o.ow hm with⟨e,e'⟩|⟨g,cap,e,_,hg,yL,zR,zO,_⟩
       .subst e';cases e;obtain rfl:m=0:=by simpa using hm
        obtain⟨g,cap,X,I,P,E⟩:=LR A f.heap.size _ [] [] zV.o none 0 (fun _=>⟨rfl,rfl⟩) (fun _ e=>by cases e) (by simp) (by simp) (by simp) zH yO 23;have HO:Hid (X.ownsRow f.heap.size 37 4 (.slice (some ⟨g,0,none⟩) 0 cap) 0 []/\Zz f X):=⟨P,zS.o.grown E zH (fun q H=>by simp[Value.ownBlock]at H;omega)⟩;clear P E hl;subst R
        go_wp2_with (at_builtin;refine wpList_append_run rfl _ _ 23 23 rfl rfl rfl I ?_);go_wp2;go_meet;exact⟨g,cap,rfl,HO.o.1,HO.o.2⟩
       .cases e;unfold maxLen at zR;obtain⟨G,zM,X,I,P,E⟩:=LR A f.heap.size _ [] (b.take m) zV.o (some ⟨g,0,none⟩) tc (fun e=>by cases e) (fun A' e=>by cases e;exact zO) (fun z J=>HZ.o z (List.mem_of_mem_take J)) (by simp) (by omega) zH yO 23;rw[hl]at I P;simp only[List.length_nil,Nat.zero_add,List.nil_append]at I P
        have HO:Hid (X.ownsRow f.heap.size 37 4 (.slice (some ⟨G,0,none⟩) m zM) (b.take m).length (Ai kC (b.take m))/\Zz f X):=⟨P,zS.o.grown E zH (fun q H=>by simp[Value.ownBlock]at H;omega)⟩;clear P E hl zO;subst R;go_wp2_with (at_builtin;refine wpList_append_run rfl _ _ 23 23 rfl rfl rfl I ?_);go_wp2;go_meet;exact⟨G,zM,rfl,HO.o.1,HO.o.2⟩
      case rest=>
       clear zV zS zU yS R zA zH b4;revert wc;intro w5 hcut;obtain⟨g,c,rfl,HL⟩:=hcut;have xI:f.heap.size<=w5.heap.size:=HL.o.2.size;have xD:=Ad HL.o.1 (g:=g) rfl
       have HF:Hid (∀X,Below f.heap.size w5 X->Aa X (w.heap.size+1) [.int .i64 8,.int .i64 0,.int .i64 0,.int .i64 n,.slice ta b.length tc,.slice none 0 0,.slice none 0 0]/\Aa X o [.string t,.slice U d.length rc]/\X.ownsRow (w.heap.size+2) 37 4 (.slice ta b.length tc) b.length (Ai kC b)):=fun X hX=>by have hb:Below f.heap.size f X:=HL.o.2.trans hX;exact⟨Aa.below D.o.box hb,Aa.below zT.o.1 hb,Ap D.o.ow hb⟩
       obtain⟨zn,yQ⟩:∃z:Kd×Value,z=(⟨S,k,t,d⟩,.slice U d.length rc):=⟨_,rfl⟩;have zW:Hid _:=yQ;clear yQ;go_upto_region 14 with fail
       refine BS [56,57,58,59,60,61,62,63,64,65,66,67] 12 rfl _ rfl (by kernel_rfl) (by kernel_rfl) (by kernel_rfl) (by kernel_rfl) (by kernel_rfl) (by decide) (by kernel_rfl) [(11,5),(11,6)] (by kernel_rfl) (fun L X=>Below f.heap.size w5 X/\(L 6=false->X.ownsRow f.heap.size 37 4 (.slice (some ⟨g,0,none⟩) m c) (b.take m).length (Ai kC (b.take m)))/\w5.heap.size<=X.heap.size) (fun i X v=>match i with
        |0=>v=.slice (some ⟨g,0,none⟩) m c
        |1=>v=.string S
        |2=>v=.int .i64 k
        |3=>v=.agg #[.string t,.slice U d.length rc]
        |4=>v=.agg #[.string S,.int .i64 k,.string t,.slice U d.length rc]
        |5=>∃q,v=.slice (some ⟨q,0,none⟩) 1 1/\q≠g/\Aa X q [.string S,.int .i64 k,.string t,.slice U d.length rc]
        |6=>∃G y,v=.slice (some ⟨G,0,none⟩) (m+1) y/\X.ownsRow f.heap.size 37 4 (.slice (some ⟨G,0,none⟩) (m+1) y) (b.take m++[zn]).length (Ai kC (b.take m++[zn]))
        |7=>v=.pointer (some ⟨w.heap.size+1,4,none⟩)
        |8=>v=.slice ta b.length tc
        |9=>v=.int .i64 m
        |10=>∃ad y,v=.slice ad (b.drop m).length y/\(ad=none/\(b.drop m).length=0/\y=0\/∃Q off,ad=some ⟨Q,off,none⟩/\Q<f.heap.size/\∀j u,(Ai kC (b.drop m))[j]?=some u->X.cell? ⟨Q,off+j,none⟩=some u)
        |11=>∃G y,v=.slice (some ⟨G,0,none⟩) (b.length+1) y/\X.ownsRow f.heap.size 37 4 (.slice (some ⟨G,0,none⟩) (b.length+1) y) (b.take m++[zn]++b.drop m).length (Ai kC (b.take m++[zn]++b.drop m))
        |_=>True) (fun j X Y=>Below f.heap.size X Y/\(j≠11->X.grownBy Y (some g))/\(j≠6->j≠11->Zz X Y)) ?_ ⟨(Below.refl _ _).drew,fun _=>Ap HL.o.1 (Below.refl _ _).drew,Zx⟩ ?_ ?_
       .intro j i X Y v yN yP yT hE C;obtain⟨B,O,h3⟩:=hE;rcases i with _|_|_|_|_|_|_|_|_|_|_|_|_
        .exact C
        .exact C
        .exact C
        .exact C
        .exact C
        .obtain⟨q,e,H,hc⟩:=C;exact⟨q,e,H,hc.aw (O (fun e=>yP (by rw[e];simp))) H.symm⟩
        .obtain⟨G,y,e,P⟩:=C;exact⟨G,y,e,Ap P (h3 (fun e=>yN e) (fun e=>yP (by rw[e];simp)))⟩
        .exact C
        .exact C
        .exact C
        .obtain⟨ad,y,e,hn|⟨Q,off,ea,hb,hc⟩⟩:=C
         .exact⟨ad,y,e,.inl hn⟩
         .exact⟨ad,y,e,.inr ⟨Q,off,ea,hb,fun j u hu=>(B.cell (p:=⟨Q,off+j,none⟩) hb).trans (hc j u hu)⟩⟩
        .obtain⟨G,y,e,P⟩:=C;exact⟨G,y,e,Ap P (h3 (fun e=>by subst e;have h9:=yT.symm.trans (by kernel_rfl:_=true);cases h9) (fun e=>yN e))⟩
        .trivial
       .intro i o' L x X hi P hL hD hJ hd K r;have zZ:=hJ.2.2;have I:Below f.heap.size X X/\(i≠11->X.grownBy X (some g))/\(i≠6->i≠11->Zz X X):=⟨Below.refl _ _,fun _=>⟨rfl,rfl,rfl,Zx,fun _ _ _=>rfl⟩,fun _ _=>Below.refl _ _⟩
        have M:i≠6->∀Y,Zz X Y->Below f.heap.size w5 Y/\(Bn L i 6=false->Y.ownsRow f.heap.size 37 4 (.slice (some ⟨g,0,none⟩) m c) (b.take m).length (Ai kC (b.take m)))/\w5.heap.size<=Y.heap.size:=fun h6 Y hY=>⟨hJ.1.trans (hY.mono (by omega)),fun h=>Ap (hJ.2.1 (by unfold Bn at h;rw[if_neg (Ne.symm h6)]at h;exact h)) hY,Zm zZ hY.size⟩
        rcases(show i=0\/i=1\/i=2\/i=3\/i=4\/i=5\/i=6\/i=7\/i=8\/i=9\/i=10\/i=11 by omega)with rfl|rfl|rfl|rfl|rfl|rfl|rfl|rfl|rfl|rfl|rfl|rfl<;>cases P<;>simp only[Bb,Act.put,Zq,Zp,Zo]at r |-
        .go_simp;exact r.out _ X rfl I (M (by omega) X (Below.refl _ _))
        .go_simp;exact r.out _ X rfl I (M (by omega) X (Below.refl _ _))
        .go_simp;exact r.out _ X rfl I (M (by omega) X (Below.refl _ _))
        .obtain⟨_,f2,_⟩:=HF.o X hJ.1;obtain⟨c0,_⟩:=f2 0 _ rfl;obtain⟨c1,_⟩:=f2 1 _ rfl;clear f2;go_simp;exact r.out _ X rfl I (M (by omega) X (Below.refl _ _))
        .have d1:=hd ⟨1,.data⟩ (by simp) (by rfl);have d2:=hd ⟨2,.data⟩ (by simp) (by rfl);have d3:=hd ⟨3,.data⟩ (by simp) (by rfl);rw[show x 1=.string S from d1,show x 2=.int .i64 k from d2,show x 3=.agg #[.string t,.slice U d.length rc]from d3]at r |-;go_simp;exact r.out _ X rfl I (M (by omega) X (Below.refl _ _))
        .have d4:=hd ⟨4,.data⟩ (by simp) (by rfl);rw[show x 4=.agg #[.string S,.int .i64 k,.string t,.slice U d.length rc]from d4]at r |-;have R:Below X.heap.size X (X.alloc (.cells #[.string S,.int .i64 k,.string t,.slice U d.length rc] 37)):=Zy;go_simp;exact r.out _ _ ⟨X.heap.size,rfl,by omega,Aa.new X _ _⟩ ⟨R.mono (by omega),fun _=>Ae _ R,fun _ _=>R⟩ (M (by omega) _ R)
        .have d0:=hd ⟨0,.data⟩ (by simp) (by rfl);obtain⟨q,e5,xJ,H⟩:=hd ⟨5,.data⟩ (by simp) (by rfl);rw[show x 0=.slice (some ⟨g,0,none⟩) m c from d0,e5]at r |-
         obtain⟨G,y,X',zK,zJ,E⟩:=LR X f.heap.size _ (b.take m) [zn] (hJ.2.1 hL) (some ⟨q,0,none⟩) 1 (fun e=>by cases e) (fun A e j u hu=>by cases e;rw[Go.WideShapes.add_plain,Nat.zero_add];exact(H j u (by rw[zW.o]at hu;simpa [Ai,kC]using hu)).1) (by rw[zW.o];simp) (by rw[List.length_take];omega) (by simp) (by omega) (fun e=>by cases e) 23
         rw[show(b.take m).length=m from by rw[List.length_take];omega]at zK zJ;have zF:Below f.heap.size X X':=(Below.refl _ _).grown E (by omega) (fun q H=>by simp[Value.ownBlock]at H;omega);refine CA (.tmp 56) (.tmp 61) 23 rfl rfl rfl zK ?_;exact r.out _ X' ⟨G,y,rfl,zJ⟩ ⟨zF,fun _=>E,fun h=>absurd rfl h⟩ ⟨hJ.1.trans zF,fun h=>by unfold Bn at h;simp at h,Zm zZ E.size⟩
        .go_simp;exact r.out _ X rfl I (M (by omega) X (Below.refl _ _))
        .have d7:=hd ⟨7,.data⟩ (by simp) (by rfl);rw[show x 7=.pointer (some ⟨w.heap.size+1,4,none⟩)from d7]at r |-;obtain⟨f1,_⟩:=HF.o X hJ.1;obtain⟨c4,_⟩:=f1 4 _ rfl;clear f1;go_simp;exact r.out _ X rfl I (M (by omega) X (Below.refl _ _))
        .go_simp;exact r.out _ X rfl I (M (by omega) X (Below.refl _ _))
        .have d8:=hd ⟨8,.data⟩ (by simp) (by rfl);have d9:=hd ⟨9,.data⟩ (by simp) (by rfl);rw[show x 8=.slice ta b.length tc from d8,show x 9=.int .i64 m from d9]at r |-;have yU:(b.drop m).length=b.length -m:=List.length_drop;rcases Hs (HF.o X hJ.1).2.2 hm with⟨e,e'⟩|⟨Q,cap,e,_,xC,yL,zR,_,off,R,yB⟩
         .subst e';cases e;obtain rfl:m=0:=by simpa using hm
          go_simp;exact r.out _ X ⟨none,0,rfl,.inl ⟨rfl,rfl,rfl⟩⟩ I (M (by omega) X (Below.refl _ _))
         .cases e;unfold maxLen at zR;have xE:m<=tc:=by omega
          have yC:Q<f.heap.size:=by have:=Ad D.o.ow (g:=Q) rfl;omega
          go_simp;rw[<-yU];exact r.out _ X ⟨_,_,rfl,.inr ⟨Q,off,rfl,yC,yB⟩⟩ I (M (by omega) X (Below.refl _ _))
        .obtain⟨g6,c6,e6,h6⟩:=hd ⟨6,.data⟩ (by simp) (by rfl);obtain⟨ad,c0,e0,yK⟩:=hd ⟨10,.data⟩ (by simp) (by rfl);rw[e6,e0]at r |-;obtain⟨G,y,X',zK,zJ,E⟩:=LR X f.heap.size _ (b.take m++[zn]) (b.drop m) h6 ad c0 (fun e=>by rcases yK with h|⟨Q,off,ea,_⟩;exact h.2;rw[ea]at e;cases e) (fun A e j u hu=>by
          rcases yK with h|⟨Q,off,ea,_,h⟩
          .rw[h.1]at e;cases e
          .rw[ea]at e;cases e;rw[Go.WideShapes.add_plain];exact h j u hu) (fun z J=>HZ.o z (List.mem_of_mem_drop J)) (by simp;omega) (by simp;omega) (by omega) (fun e=>by cases e) 23
         rw[show(b.take m++[zn]).length=m+1 from by simp;omega,show m+1+(b.drop m).length=b.length+1 from by simp;omega]at zK;rw[show(b.take m++[zn]).length+(b.drop m).length=b.length+1 from by simp;omega]at zJ;have zN:Below f.heap.size X X':=(Below.refl _ _).grown E (by omega) (fun q H=>(Ad h6 H).1);refine CA (.tmp 62) (.tmp 66) 23 rfl rfl rfl zK ?_
         exact r.out _ X' ⟨G,y,rfl,zJ⟩ ⟨zN,fun h=>absurd rfl h,fun _ h=>absurd rfl h⟩ ⟨hJ.1.trans zN,(fun h=>by unfold Bn at h;simp at h;rw[hD ⟨6,.data⟩ (by simp) (by rfl)]at h;cases h),Zm zZ E.size⟩
       .intro L x X hL hJ C K r;simp only[Bb,Act.put,Zq,Zp,Zo];obtain⟨g1,c1,e1,B⟩:=C 11 (by decide) (fun j=>by simp);rw[e1];go_simp;refine r.out _ _ ?_;clear r K C;have zF:Below f.heap.size f X:=HL.o.2.trans hJ.1;have O:=D.o.below zF;have yY:=O.bl.size;have xA:=D.o.box.lt;have xB:=Ad B (g:=g1) rfl
        have HN:Hid (MM w (X.setCell ⟨w.heap.size+1,4,none⟩ (.slice (some ⟨g1,0,none⟩) (b.length+1) c1)) n (.slice (some ⟨g1,0,none⟩) (b.length+1) c1) (b.take m++[zn]++b.drop m)):=by
         refine⟨Aa.same O.ig ?_,O.box.set 4 _,EP (B.mono (by omega)) (fun q H=>by simp[Value.ownBlock]at H;omega) 4 _,fun z J=> ?_,O.bl.setCell (p:=⟨w.heap.size+1,4,none⟩) (by simp) _⟩
         .exact(Bd X (w.heap.size+1) 4 _).block _ O.ig.lt (by simp)
         .have zE:Mz (w.heap.size+2) X n z:=by
           simp only[List.mem_append,List.mem_singleton]at J;rcases J with(J|J)|J
           .exact O.zz z (List.mem_of_mem_take J)
           .rw[J,zW.o];exact zT.o.2.below zF
           .exact O.zz z (List.mem_of_mem_drop J)
          exact⟨EP zE.row (fun q H=>by have:=(Ad zE.row H).1;omega) 4 _,zE.sm,zE.tx,zE.rl,zE.rs,zE.bo⟩
        obtain⟨y4,q4⟩:=O.box 4 _ rfl;have yZ:w.heap.size+1<X.heap.size:=O.box.lt;clear O zF HF HL D zT B;go_wp2;exact⟨⟨k+1,S,_,_,by go_num,rfl,by omega,by omega,by omega,by simp;omega,HN⟩,by simp[intOf];omega⟩
  .obtain⟨ta,tc,C⟩:=Ax F.o.ow;subst C;obtain⟨b0,b1,b2,b3,b4,b5,b6⟩:=Aa.c7 F.o.box 0 1 2 3 4 5 6;obtain⟨⟨y0,q0⟩,⟨y1,q1⟩,⟨y2,q2⟩,⟨y3,q3⟩,⟨y4,q4⟩,⟨y5,q5⟩,y6,q6⟩:=Jb F.o.ig;have xF:¬(k:Int)<=n:=by omega
   have HE:Hid (∀X,Tn [w.heap.size] wr X->X.ownsRow (w.heap.size+2) 37 4 (.slice ta b.length tc) b.length (Ai kC b)/\(∀z∈b,Mz (w.heap.size+2) X n z)/\b.length<=n/\Zz w X):=fun X hX=>by refine⟨As F.o.ow (fun g hg=>hX.block g (Ad F.o.ow hg).2 (by have:=(Ad F.o.ow hg).1;simp;omega)),fun z J=> ?_,by omega,F.o.bl.trans (hX.below F.o.bl.size (by simp))⟩;have B:=F.o.zz z J;exact⟨As B.row (fun g hg=>hX.block g (Ad B.row hg).2 (by have:=(Ad B.row hg).1;simp;omega)),B.sm,B.tx,B.rl,B.rs,B.bo⟩
   clear F;go_wp2;refine bodyPost_ret (v:=.agg #[.int .i64 8,.int .i64 0,.int .i64 0,.int .i64 n,.slice ta b.length tc,.slice none 0 0,.slice none 0 0]) (by simp[results,results45,go_sem,y0,y1,y2,y3,y4,y5,y6]) rfl ⟨_,b,rfl,HE.o _ ?_⟩
   repeat refine Tn.trans ?_ (Tn.set _ _ _ _ (by simp))
   exact Tn.of (Below.refl _ _)
end Go.Proofs.YtmjlkgpekcnacaaGreat
