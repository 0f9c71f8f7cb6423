import Derived.Test.YtckmnfhmoankmaaGreatDoorX19
set_option maxRecDepth 100000
set_option maxHeartbeats 16000000
namespace Go.Proofs.YtckmnfhmoankmaaGreatDoor
open Go.ChangeShapes Go.WideShapes Go.ChangeAt Go.RowKit _root_.Go.Proofs.Tryz
def OM(wd:Int)(ks:List Kd):Prop:=∀k∈ks,AK k.text k.refs wd=true
theorem OM.step{b l given ae:Int}{i:List Kd}{q:List Pd}{p:List Ld}{g:Int}{s j:Zi}{c:Int}{text:Zi}{refs:Zl}(h:OM b i)(m:Cs g s j c text refs b=true){r:Rs}(d:Eg b l given ae i q p g s j c text refs r):OM b r.ks:=by
 obtain⟨A,B,e⟩:=Ib m;rcases d with⟨rfl,_,o,n,v,w,d,rfl⟩|⟨_,_,f,rfl⟩|⟨_,_,rfl⟩|⟨_,_,o,n,rfl⟩|⟨_,_,rfl⟩|⟨_,z,rfl⟩|⟨_,_,_,rfl⟩
 ·rcases d with⟨_,_,_,_,rfl,rfl⟩|⟨u,t,x,rfl,rfl⟩
  ·exact h
  ·intro k a;rcases List.mem_append.1 (Hi.1 a)with a|a
   ·exact h k a
   ·rw[List.mem_singleton]at a;subst a;exact e.df rfl
 ·exact h
 ·exact h
 ·exact h
 ·exact h
 ·exact h
 ·exact fun k a=>h k (List.filter_sublist.subset a)
theorem Dt.tok{a:Int}:∀{xs:Zl} {r r':Rs},Dt a r xs r'->OM a r.ks->OM a r'.ks
 |[],r,r',h,hr=>by obtain rfl:r'=r:=h;exact hr
 |x::xs,r,r',h,hr=>by obtain⟨d,b,c⟩:=h;exact Dt.tok c (hr.step (Hz b.1).1 b.2)
theorem CZ.tok{v:Vd}{r:Rs}(h:CZ v r):OM v.wd v.ks:=by have a:=h.run.tok (by intro k b;cases b);rwa[h.same.2.1]at a
def Eo(w:Zh)(lo:Nat)(a:Zk)(ss:Zl):Prop:=
 ss=[]∨∃b off,a=some ⟨b,off,none⟩/\b<lo/\(∃cur,w.heap[b]?=some (.cells cur 9))/\∀i s,ss[i]?=some s->w.cell? (Ze b (off+i))=some (.string s)
theorem Eo.below{w g:Zh}{lo:Nat}{a:Zk}{f:Zl}(h:Eo w lo a f)(e:Below lo w g):Eo g lo a f:=by
 rcases h with h|⟨b,c,k,d,⟨j,l⟩,n⟩
 ·exact .inl h
 ·exact .inr ⟨b,c,k,d,⟨j,(e.block b d).trans l⟩,fun i s m=>(e.cell (p:=⟨b,c+i,none⟩) d).trans (n i s m)⟩
theorem Eo.row{w:Zh}{lo:Nat}{a:Zk}{c:Zl}(h:Eo w lo a c)(g:lo<=w.heap.size):Ad w w.heap.size a c:=by
 rcases h with h|⟨b,d,e,f,_,i⟩
 ·exact .inl h
 ·exact .inr ⟨b,d,e,Zr f g,i⟩
theorem Eo.ay{w:Zh}{lo:Nat}{V:List Nat}{a:Zk}{c:Zl}(h:Eo w lo a c)(j:lo<=w.heap.size)(e:∀b∈V,lo<=b):DE w 0 V a c:=by
 rcases h with h|⟨b,d,f,g,i,k⟩
 ·exact .inl h
 ·exact .inr ⟨b,d,f,Zr g j,fun h=>by have:=e b h;omega,.inr ⟨Nat.zero_le _,i⟩,k⟩
theorem Dr.zero{V:Zh}{base d m:Nat}{O P L:Value}{k a given ae:Int}{g:List Kd}{j:List Pd}{i:List Ld}(h:Dr V base d m O P L k a given ae g j i)(F:base+4<=m):Dr V 0 d m O P L k a given ae g j i:=by
 obtain⟨n,f,o,p,q⟩:=h.map;refine⟨h.box,⟨n,f,o,p,fun s x=> ?_⟩,h.ord.mono (Nat.zero_le _),h.cl.mono (Nat.zero_le _),h.ci.mono (Nat.zero_le _),Nat.zero_le _,Nat.zero_le _,h.ap⟩;rcases q s x with h|⟨u,D,E,A,B,C,e⟩
 ·exact .inl h
 ·refine .inr ⟨u,D,E,A,B,C,?_⟩;rcases e with e|⟨b,l,r,t,z,c,v⟩
  ·exact .inl e
  ·refine .inr ⟨b,l,r,t,z,.inr ⟨Nat.zero_le _,?_⟩,v⟩;rcases c with⟨_,I,w,G⟩|⟨_,c⟩
   ·simp[vB]at w;omega
   ·exact c
theorem Dr.low{w:Zh}{base d m:Nat}{O P L:Value}{j f given ae:Int}{g:List Kd}{i:List Pd}{h:List Ld}(a:Dr w base d m O P L j f given ae g i h):∀b∈vB d m O P L,base<=b:=by
 intro b c;unfold vB at c;simp only[List.mem_cons,List.mem_append,Option.mem_toList]at c;rcases c with rfl|rfl|e|e|e
 ·exact a.bd
 ·exact a.bm
 ·exact(Ac a.ord e).1
 ·exact(Ac a.cl e).1
 ·exact(Ac a.ci e).1
theorem IW.has{d m:Nat}{a:Int}{r:Rs}{X Z:Zh}(h:IW 0 d m a r X)(b:∀k∈r.ks,(k.sum.size:Int)=a)(g:Z.heap[m]?=X.heap[m]?)(s:Zi):VF Z a m r.ks s:=by obtain⟨O,P,L,h⟩:=h;obtain⟨n,f,i,c,e⟩:=h.map;exact Je a m n f r.ks X X.heap.size s Z (c.same g) e.holds b
theorem IW.al{d m:Nat}{f:Int}{r:Rs}{X c:Zh}{R:Nat}(h:IW 0 d m f r X)(g:R≠d)(a:X.heap.size<=R∨∃b,X.heap[R]?=some (.cells b 90))(e:Tn [R] X c):IW 0 d m f r c:=by
 rcases a with a|⟨b,a⟩
 ·obtain⟨O,P,L,h⟩:=h;exact⟨O,P,L,h.below (e.below (Zx) (by simp;exact a))⟩
 ·exact h.stays a (Nat.zero_le _) g e
theorem LB(n ag k o:Int)(a b:Zk)(u z:Nat)(d c:Zl)(w:Zh)(O:Ad w w.heap.size a d)(N:Ad w w.heap.size b c)(M:FT d c):
 Calls prog 114 #[.agg (Yr n a d.length u b c.length z ag k o)] w fun e G=>∃x i y j,e=.returned (.agg (Yr n x d.length i y c.length j ag k o))/\
  G.ownsRow w.heap.size 9 1 (.slice x d.length i) d.length (d.map Value.string)/\G.ownsRow w.heap.size 9 1 (.slice y c.length j) c.length (c.map Value.string)/\(∀g,(Value.slice x d.length i).ownBlock=some g->(Value.slice y c.length j).ownBlock≠some g)/\Zz w G:=by
 obtain⟨W,l⟩:∃W,W=(w.alloc (.cells (Yr n a d.length u b c.length z ag k o) 44)).alloc (.cells Yq 44):=⟨_,rfl⟩;have h:=(Bj l).1;have Q:=(Bj l).2.2.1;have R:Aa W (w.heap.size+1) Xw:=by have A:=Aa.new (w.alloc (.cells (Yr n a d.length u b c.length z ag k o) 44)) Xw 44;rw[World.size_alloc]at A;rw[l];exact A
 have V:=(Bj l).2.1;have L:=Yx l;have p:Hid (Aa W _ _):=(Bj l).2.2.1;have B:Hid (Aa W (w.heap.size+1) Xw):=R;have K:Hid (Ad w w.heap.size a d):=O;have J:Hid (Ad w w.heap.size b c):=N;obtain⟨S,T⟩:=Aa.c2 Q 1 2;clear l R Q O N;go_enter func114,ntmps114;go_upto_region 1 with fail;rw[←L.o];clear L;go_region_with (first
  |(go_at_call 136;refine(Ew a u d W.drew (Ad.af (w:=w) K.o h.drew) M.q).mono ?_;rintro e P ⟨x,i,rfl,r,C⟩;have f:Below W.heap.size W P:=(Below.refl W.heap.size W).drew.trans C;obtain⟨b2,_⟩:=Aa.below p.o f 2 _ rfl)
  |(go_at_call 136;refine(Ew b z c P (Ad.af (w:=w) J.o (h.trans (f.mono h.size))) M.m).mono ?_;rintro e I ⟨y,j,rfl,s,q⟩;have m:Below W.heap.size W I:=f.trans (q.mono f.size);obtain⟨⟨c0,d0⟩,⟨c1,d1⟩,⟨c2,d2⟩,⟨c3,d3⟩,⟨c4,d4⟩,c5,d5⟩:=c6 (Aa.below p.o m);obtain⟨⟨k0,g0⟩,⟨k1,g1⟩,⟨k2,g2⟩,⟨k3,g3⟩,⟨k4,g4⟩,k5,g5⟩:=c6 (Aa.below (v:=Zf) B.o m)))
 all_goals
  have D:I.ownsRow (w.heap.size+2) 9 1 (.slice x d.length i) d.length (d.map Value.string):=(CQ r q).mono (by simp;omega);have E:I.ownsRow (w.heap.size+2) 9 1 (.slice y c.length j) c.length (c.map Value.string):=s.mono (by have:=f.size;omega);have F:∀g,(Value.slice x d.length i).ownBlock=some g->(Value.slice y c.length j).ownBlock≠some g:=fun g A U=>by have X:=(Ac r A).2;have Y:=(Ac s U).1;omega
  have t:=Yx (Zn D (Zn E (Zn F (h.trans (m.mono h.size)))));clear D E r s C q f m p B K J S T h F;go_wp2;refine bodyPost_ret (v:=.agg (Yr n x d.length i y c.length j ag k o)) (by simp[results,results114,go_sem,k0,k1,k2,k3,k4,k5]) rfl ⟨x,i,y,j,rfl,?_,?_,t.o.2.2.1,?_⟩
  ·refine World.ownsRow.mono ?_ (show w.heap.size<=w.heap.size+2 by omega)
   iterate 8 (refine ownsRow_setCell_below ?_ (by simp<;>omega) _)
   exact t.o.1
  ·refine World.ownsRow.mono ?_ (show w.heap.size<=w.heap.size+2 by omega)
   iterate 8 (refine ownsRow_setCell_below ?_ (by simp<;>omega) _)
   exact t.o.2.1
  ·iterate 8 (refine Below.setCell ?_ (by simp) _)
   exact t.o.2.2.2
theorem LC(v:Vd)(a:Va)(r:Rs)(w:Zh)(hr:Cc w w.heap.size a v)(hf:Cy v)(K:CZ v r):
 Calls prog 54 #[.agg (Yg v a)] w fun e w'=>∃(S U T P L Q M:Value) (rs:Zj),e=.returned (.agg #[Zg v.wd,Zg v.aj,S,U,Zg v.sw,Zg v.now,Zg v.given,Zg v.ae,T,P,L,Zg v.ph,Q,M,Zg v.ag,Zg v.at_,Zg v.ro])/\AU w' w.heap.size S U T P L Q M rs v/\Zz w w':=by
 obtain⟨W,hW⟩:∃W,W=(w.alloc (.cells (Yg v a) 46)).alloc (.cells Xx 46):=⟨_,rfl⟩;have bW:=(Bj hW).1;have zW:=(Bj hW).2.1;have zB:Hid (Aa W _ _):=(Bj hW).2.2.1;have yV:Hid (Aa W (w.heap.size+1) Yb):=by have p:=Aa.new (w.alloc (.cells (Yg v a) 46)) Yb 46;rw[World.size_alloc]at p;show Aa W (w.heap.size+1) Yb;rw[hW];exact p
 have HR:Hid (∀X,Zz w X->Cc X X.heap.size a v):=fun X hX=>hr.af hX;have yY:=K.run.ok (Ic K.wd.1 K.wd.2);have zA:Hid (v.wd=v.sw/\r.ks=v.ks/\r.ps=v.ps/\r.ls=v.ls):=⟨K.same.1.1,K.same.2⟩;have n:Hid (FL v.sw r.now r.given r.ae v.ks v.ps v.ls):=by have p:FL v.wd r.now r.given r.ae r.ks r.ps r.ls:=yY;rw[zA.o.1,zA.o.2.1,zA.o.2.2.1,zA.o.2.2.2]at p;exact p
 have HW:=Yx hW;have Z:Hid (Zz w W):=bW;have f1:=hf.s;have f2:=hf.t;have xB:Hid (FT v.qs v.ms):=hf.r;obtain⟨e2,e3⟩:=Aa.c2 zB.o 2 3;clear hW hr bW hf K yY zA;go_enter func54,ntmps54;go_upto_region 1 with fail;rw[←HW.o];clear HW;go_wp2_with fail;refine(Ng a.sa a.ta a.sc a.tc v.ss v.tt W (HR.o W Z.o).s (HR.o W Z.o).t f1 f2).mono ?_;rintro e w1 ⟨x,f,y,h,rfl,yJ,N,zG,G⟩;have z1:=G.size;clear e2 e3
 obtain⟨o,zC⟩:∃X,X=((w1.setCell (Ze (w.heap.size) 2) (.slice x v.ss.length f)).setCell (Ze (w.heap.size) 3) (.slice y v.tt.length h)):=⟨_,rfl⟩;have t1:Tn [w.heap.size] w1 o:=by rw[zC];exact(Tn.set _ _ _ _ (by simp)).trans (Tn.set _ _ _ _ (by simp))
 have xF:o.heap.size=w1.heap.size:=by rw[zC];simp
 have yL:Hid (Aa o (w.heap.size+1) Yb):=Aa.same (Aa.below (v:=Zf) yV.o G) (t1.block _ (by omega) (by simp<;>omega));have c:Hid (Aa o w.heap.size (Yc v x f y h a.ka a.kc a.pa a.pc a.la a.lc a.qa a.qc a.ma a.mc)):=by have p:Aa w1 w.heap.size (Ye v a):=Aa.below zB.o G;show Aa o w.heap.size (Yc v x f y h a.ka a.kc a.pa a.pc a.la a.lc a.qa a.qc a.ma a.mc);rw[zC];exact((p.set 2 _).set 3 _)
 have D:Hid (Zz w o):=(Z.o.trans (G.mono Z.o.size)).trans (t1.below (by omega) (by simp));have zM:Hid (o.ownsRow W.heap.size 9 1 (.slice x v.ss.length f) v.ss.length (v.ss.map Value.string)):=BM yJ t1 (by simp;omega);have zN:Hid (o.ownsRow W.heap.size 9 1 (.slice y v.tt.length h) v.tt.length (v.tt.map Value.string)):=BM N t1 (by simp;omega);have yP:=Yx zG;obtain⟨e2,f2⟩:=(Aa.below zB.o G) 2 _ rfl
 obtain⟨e3,f3⟩:=(Aa.below zB.o G) 3 _ rfl;have yS:=Yx zC;have yO:Hid ((∀g,(Value.slice x v.ss.length f).ownBlock=some g->g<w1.heap.size)/\(∀g,(Value.slice y v.tt.length h).ownBlock=some g->g<w1.heap.size)):=⟨fun g i=>(Ac yJ i).2,fun g i=>(Ac N i).2⟩;clear zC yJ N zG Z;go_upto_region 2 with fail;rw[←yS.o];clear yS e2 f2 e3 f3 G t1 zB yV;obtain⟨e4,f4⟩:=(c.o) 4 _ rfl;obtain⟨e5,f5⟩:=(c.o) 5 _ rfl
 obtain⟨e6,f6⟩:=(c.o) 6 _ rfl;obtain⟨e7,f7⟩:=(c.o) 7 _ rfl;obtain⟨e8,f8⟩:=(c.o) 8 _ rfl;obtain⟨e9,f9⟩:=(c.o) 9 _ rfl;obtain⟨zS,yA⟩:=(c.o) 10 _ rfl;have HD:=Yx (Jo v.sw v.now v.given v.ae a.ka a.pa a.la a.kc a.pc a.lc v.ks v.ps v.ls o (HR.o o D.o).st n.o.bn.len n.o.np n.o.nl n.o.bn.sz n.o.bn.w8);go_wp2_with fail;refine Calls.mono HD.o ?_;rintro e w2 ⟨d,m,O,P,L,rfl,yW,_,_,yH⟩
 have yR:=Yx (Jg (o.heap.size+1) d m O P L v.sw v.now v.given v.ae v.ks v.ps v.ls w2 yW n.o.bn.nd n.o.bn.sz n.o.bn.len n.o.np n.o.nl n.o.dt);have z2:=yH.size;have zR:Hid (Zz o w2):=yH;clear e4 f4 e5 f5 e6 f6 e7 f7 e8 f8 e9 f9 zS yA HD yW yH;go_wp2_with fail;refine Calls.mono yR.o ?_;rintro e w3 ⟨T,P',L',rs,rfl,zO,yI⟩;obtain⟨z,A,t,u,q,s,rfl,rfl,rfl,_⟩:=zO.rows;have z3:=yI.size
 have b:Below o.heap.size o w3:=zR.o.trans (yI.mono zR.o.size)
 obtain⟨F,zE⟩:∃X,X=(((((((w3.setCell (Ze (w.heap.size) 4) (Zg v.sw)).setCell (Ze (w.heap.size) 5) (Zg v.now)).setCell (Ze (w.heap.size) 6) (Zg v.given)).setCell (Ze (w.heap.size) 7) (Zg v.ae)).setCell (Ze (w.heap.size) 8) (.slice z v.ks.length A)).setCell (Ze (w.heap.size) 9) (.slice t v.ps.length u)).setCell (Ze (w.heap.size) 10) (.slice q v.ls.length s)):=⟨_,rfl⟩
 have t3:Tn [w.heap.size] w3 F:=by rw[zE];exact((((((Tn.set _ _ _ _ (by simp)).trans (Tn.set _ _ _ _ (by simp))).trans (Tn.set _ _ _ _ (by simp))).trans (Tn.set _ _ _ _ (by simp))).trans (Tn.set _ _ _ _ (by simp))).trans (Tn.set _ _ _ _ (by simp))).trans (Tn.set _ _ _ _ (by simp))
 have xG:F.heap.size=w3.heap.size:=by rw[zE];simp
 have xA:Hid (Aa F (w.heap.size+1) Yb):=Aa.same (Aa.below (v:=Zf) yL.o b) (t3.block _ (by omega) (by simp<;>omega));have j:Hid (Aa F w.heap.size (Yc v x f y h z A t u q s a.qa a.qc a.ma a.mc)):=by have p:Aa w3 w.heap.size (Yc v x f y h a.ka a.kc a.pa a.pc a.la a.lc a.qa a.qc a.ma a.mc):=Aa.below c.o b;show Aa F w.heap.size (Yc v x f y h z A t u q s a.qa a.qc a.ma a.mc);rw[zE];exact(((((((p.set 4 _).set 5 _).set 6 _).set 7 _).set 8 _).set 9 _).set 10 _)
 have l:Hid (Zz w F):=(D.o.trans (b.mono D.o.size)).trans (t3.below (by have:=D.o.size;omega) (by simp));replace zM:Hid (F.ownsRow W.heap.size 9 1 (.slice x v.ss.length f) v.ss.length (v.ss.map Value.string)):=BM (Ag zM.o b) t3 (by simp;omega);replace zN:Hid (F.ownsRow W.heap.size 9 1 (.slice y v.tt.length h) v.tt.length (v.tt.map Value.string)):=BM (Ag zN.o b) t3 (by simp;omega)
 have zK:Hid ((∀g,(Value.slice x v.ss.length f).ownBlock=some g->g<w2.heap.size)/\(∀g,(Value.slice y v.tt.length h).ownBlock=some g->g<w2.heap.size)/\∀g∈Bk (.slice z v.ks.length A) (.slice t v.ps.length u) (.slice q v.ls.length s) rs,g<w3.heap.size):=⟨fun g i=>by have:=yO.o.1 g i;omega,fun g i=>by have:=yO.o.2 g i;omega,zO.cf⟩
 have yQ:Hid (AV F w2.heap.size (.slice z v.ks.length A) (.slice t v.ps.length u) (.slice q v.ls.length s) rs v.ks v.ps v.ls):=zO.al t3 (by simp;omega);obtain⟨e4,f4⟩:=(Aa.below c.o b) 4 _ rfl;obtain⟨e5,f5⟩:=(Aa.below c.o b) 5 _ rfl;obtain⟨e6,f6⟩:=(Aa.below c.o b) 6 _ rfl;obtain⟨e7,f7⟩:=(Aa.below c.o b) 7 _ rfl;obtain⟨e8,f8⟩:=(Aa.below c.o b) 8 _ rfl;obtain⟨e9,f9⟩:=(Aa.below c.o b) 9 _ rfl
 obtain⟨zS,yA⟩:=(Aa.below c.o b) 10 _ rfl;have yT:=Yx zE;clear zE zO yR zR;go_upto_region 3 with fail;rw[←yT.o];clear yT e4 f4 e5 f5 e6 f6 e7 f7 e8 f8 e9 f9 zS yA yI b t3 c yL D;obtain⟨zT,yB⟩:=(j.o) 11 _ rfl;obtain⟨zU,yC⟩:=(j.o) 12 _ rfl;obtain⟨zV,yD⟩:=(j.o) 13 _ rfl;obtain⟨zX,yE⟩:=(j.o) 14 _ rfl;obtain⟨zY,yF⟩:=(j.o) 15 _ rfl;obtain⟨zZ,yG⟩:=(j.o) 16 _ rfl;go_wp2_with fail
 refine(LB v.ph v.ag v.at_ v.ro a.qa a.ma a.qc a.mc v.qs v.ms F (HR.o F l.o).q (HR.o F l.o).m xB.o).mono ?_;rintro e w4 ⟨J,C,I,B,rfl,yX,zI,zH,k⟩;clear zT yB zU yC zV yD zX yE zY yF zZ yG;have z4:=k.size
 obtain⟨R,zF⟩:∃X,X=((((((w4.setCell (Ze (w.heap.size) 11) (Zg v.ph)).setCell (Ze (w.heap.size) 12) (.slice J v.qs.length C)).setCell (Ze (w.heap.size) 13) (.slice I v.ms.length B)).setCell (Ze (w.heap.size) 14) (Zg v.ag)).setCell (Ze (w.heap.size) 15) (Zg v.at_)).setCell (Ze (w.heap.size) 16) (Zg v.ro)):=⟨_,rfl⟩;have V:Tn [w.heap.size] w4 R:=by rw[zF];exact(((((Tn.set _ _ _ _ (by simp)).trans (Tn.set _ _ _ _ (by simp))).trans (Tn.set _ _ _ _ (by simp))).trans (Tn.set _ _ _ _ (by simp))).trans (Tn.set _ _ _ _ (by simp))).trans (Tn.set _ _ _ _ (by simp))
 have xH:R.heap.size=w4.heap.size:=by rw[zF];simp
 have yM:Hid (Aa R (w.heap.size+1) Yb):=Aa.same (Aa.below (v:=Zf) xA.o k) (V.block _ (by omega) (by simp<;>omega));have yZ:Hid (Aa R w.heap.size (Yc v x f y h z A t u q s J C I B)):=by have p:Aa w4 w.heap.size (Yc v x f y h z A t u q s a.qa a.qc a.ma a.mc):=Aa.below j.o k;show Aa R w.heap.size (Yc v x f y h z A t u q s J C I B);rw[zF];exact((((((p.set 11 _).set 12 _).set 13 _).set 14 _).set 15 _).set 16 _)
 obtain⟨W5,zP⟩:∃X,X=R.setCells (w.heap.size+1) 0 (Yc v x f y h z A t u q s J C I B):=⟨_,rfl⟩;have Y:Tn [w.heap.size+1] R W5:=by rw[zP];exact Ax _ _ _ _
 have x5:Aa W5 (w.heap.size+1) (Yc v x f y h z A t u q s J C I B):=by rw[zP];exact yM.o.aw _ rfl
 have xE:=Y.size;have q1:=BM (BM (Ag zM.o k) V (by simp;omega)) Y (by simp;omega);have q2:=BM (BM (Ag zN.o k) V (by simp;omega)) Y (by simp;omega);have q3:=((yQ.o.below k).al V (by simp;omega)).al Y (by simp;omega);have q4:=BM (BM yX V (by simp;omega)) Y (by simp;omega);have q5:=BM (BM zI V (by simp;omega)) Y (by simp;omega)
 have yK:Hid (Zz w W5):=((l.o.trans (k.mono l.o.size)).trans (V.below (by have:=l.o.size;omega) (by simp))).trans (Y.below (by have:=l.o.size;omega) (by simp));have HV:Hid (AU W5 w.heap.size (.slice x v.ss.length f) (.slice y v.tt.length h) (.slice z v.ks.length A) (.slice t v.ps.length u) (.slice q v.ls.length s) (.slice J v.qs.length C) (.slice I v.ms.length B) rs v):=
  AU.of (n1:=w2.heap.size) (n2:=w3.heap.size) (Al.own (q1.mono (by omega))) (Al.own (q2.mono (by omega))) (fun g p=>yP.o g p) (fun g i=>by rcases i with i|i;exact zK.o.1 g i;exact zK.o.2.1 g i) q3 (by omega) zK.o.2.2 (Al.own (q4.mono (by omega))) (Al.own (q5.mono (by omega))) (fun g i=>by rcases i with i|i;(have:=(Ac q4 i).1;omega);(have:=(Ac q5 i).1;omega)) z3 (fun g p=>zH g p)
 obtain⟨zT,yB⟩:=(Aa.below j.o k) 11 _ rfl;obtain⟨zU,yC⟩:=(Aa.below j.o k) 12 _ rfl;obtain⟨zV,yD⟩:=(Aa.below j.o k) 13 _ rfl;obtain⟨zX,yE⟩:=(Aa.below j.o k) 14 _ rfl;obtain⟨zY,yF⟩:=(Aa.below j.o k) 15 _ rfl;obtain⟨zZ,yG⟩:=(Aa.below j.o k) 16 _ rfl;have yU:=Yx zF;have xC:=Yx zP;have xD:=Yx x5;clear zF zP yX zI zH q1 q2 q3 q4 q5 x5 V Y zM zN yQ yP zK;go_upto_region 4 with fail;rw[←yU.o]
 clear yU zT yB zU yC zV yD zX yE zY yF zZ yG;have zJ:((Yd v x f y h z A t u q s J C I B):Array Value).all (·.oneCell')=true:=by simp[Value.oneCell']
 have E:R.there (w.heap.size+1) 0 17:=yM.o.there;have yN:=Yx (Zn zJ E);clear zJ E;go_wp2_with (first
  |refine wpList_load_mid rfl 46 _ rfl w.heap.size 0 rfl (Yc v x f y h z A t u q s J C I B) _ yZ.o.range underlying46 rfl (by kernel_rfl) ?_
  |refine wpList_store_mid rfl 46 _ _ rfl (w.heap.size+1) 0 (Yd v x f y h z A t u q s J C I B) rfl rfl yN.o.2 (by kernel_rfl) yN.o.1 ?_)
 rw[←xC.o];refine bodyPost_ret (BL results54 _ _ (w.heap.size+1) (Yc v x f y h z A t u q s J C I B) _ rfl (Aa.range xD.o) underlying46 rfl (by kernel_rfl)) rfl ?_;exact⟨_,_,_,_,_,_,_,rs,rfl,HV.o,yK.o⟩
theorem PL(v:Vd)(a:Va)(w:Zh)
 (C:∀X,Zz w X->Calls prog 75 #[.agg #[.slice a.sa v.ss.length a.sc,.slice a.ta v.tt.length a.tc]] X fun e z=>∃x j y k,e=.returned (.agg #[Za x v.ss.length j,Za y v.tt.length k])/\z.ownsRow X.heap.size 9 1 (Za x v.ss.length j) v.ss.length (v.ss.map Value.string)/\z.ownsRow X.heap.size 9 1 (Za y v.tt.length k) v.tt.length (v.tt.map Value.string)/\x≠y/\Zz X z)
 (N:∀X,Zz w X->Calls prog 45 #[.agg (Ys v.sw v.now v.given v.ae a.ka v.ks.length a.kc a.pa v.ps.length a.pc a.la v.ls.length a.lc)] X fun e z=>∃T P L q,e=.returned (.agg #[Zg v.sw,Zg v.now,Zg v.given,Zg v.ae,T,P,L])/\AV z X.heap.size T P L q v.ks v.ps v.ls/\(∀u∈T::P::L::q,∃g n c,u=Za g n c)/\Zz X z)
 (h3:∀X,Zz w X->Calls prog 76 #[.agg (Yr v.ph a.qa v.qs.length a.qc a.ma v.ms.length a.mc v.ag v.at_ v.ro)] X fun e z=>∃i d f b,e=.returned (.agg (Yr v.ph (some ⟨i,0,none⟩) v.qs.length d (some ⟨f,0,none⟩) v.ms.length b v.ag v.at_ v.ro))/\z.ownsRow X.heap.size 9 1 (Za i v.qs.length d) v.qs.length (v.qs.map Value.string)/\z.ownsRow X.heap.size 9 1 (Za f v.ms.length b) v.ms.length (v.ms.map Value.string)/\i≠f/\Zz X z):
 Calls prog 42 #[.agg (Yg v a)] w fun e z=>∃(S U T P L Q M:Value) (q:Zj),e=.returned (.agg #[Zg v.wd,Zg v.aj,S,U,Zg v.sw,Zg v.now,Zg v.given,Zg v.ae,T,P,L,Zg v.ph,Q,M,Zg v.ag,Zg v.at_,Zg v.ro])/\AU z w.heap.size S U T P L Q M q v/\(∀u∈S::U::Q::M::T::P::L::q,∃g n c,u=Za g n c)/\Zz w z:=by
 obtain⟨W,O⟩:∃W,W=(w.alloc (.cells (Yg v a) 46)).alloc (.cells Xx 46):=⟨_,rfl⟩;have E:=(Bj O).1;have zW:=(Bj O).2.1;have HX:Hid (Aa W _ _):=(Bj O).2.2.1;have HZ:Hid (Aa W (w.heap.size+1) Yb):=by have C:=Aa.new (w.alloc (.cells (Yg v a) 46)) Yb 46;rw[World.size_alloc]at C;show Aa W (w.heap.size+1) Yb;rw[O];exact C
 have H1:=Yx C;have H2:=Yx N;have H3:=Yx h3;have J:Hid (∀X,Zz W X->Aa X w.heap.size (Ye v a)):=fun X Z=>Aa.below HX.o Z;have HW:=Yx O;clear O C N h3;go_enter func42,ntmps42;go_upto_region 1 with fail;rw[←HW.o];clear HW
 go_cut [0] (fun u wx=>∃x j y k r s o p l m q i d f b,Hid (Aa wx (w.heap.size+1) (Yc v (some ⟨x,0,none⟩) j (some ⟨y,0,none⟩) k r s o p l m (some ⟨i,0,none⟩) d (some ⟨f,0,none⟩) b)/\Zz w wx/\AU wx w.heap.size (Za x v.ss.length j) (Za y v.tt.length k) (.slice r v.ks.length s) (.slice o v.ps.length p) (.slice l v.ls.length m) (Za i v.qs.length d) (Za f v.ms.length b) q v/\∀u∈(.slice r v.ks.length s)::(.slice o v.ps.length p)::(.slice l v.ls.length m)::q,∃g n c,u=Za g n c))
 case first=>
  refine wp_region_held_drew (S:=fun X=>Aa X w.heap.size (Ye v a)) (by kernel_rfl) (J.o _ (Below.refl _ _).drew) (fun B=> ?_);refine Br 0 ⟨some 3,.fieldAddr 46 (.tmp 1) 0,0,BE,#[],none⟩ (Yz w.heap.size) (by exact B) ?_;try simp only[Act.put,Zq,Zp,Zo]
  refine Di 1 ⟨some 4,.load 3 (.tmp 3),3,BE,#[Ai 0],none⟩ (Zg v.wd) (by exact Or.inl ⟨by rfl,fun X Z=>by have h0:=(Z 0 _ rfl).1;go_simp⟩) (by exact B) ?_;try simp only[Act.put,Zq,Zp,Zo]
  refine Br 2 ⟨some 5,.fieldAddr 46 (.tmp 1) 1,0,BE,#[],none⟩ (Yy w.heap.size 1) (by exact B) ?_;try simp only[Act.put,Zq,Zp,Zo]
  refine Di 3 ⟨some 6,.load 3 (.tmp 5),3,BE,#[Ai 2],none⟩ (Zg v.aj) (by exact Or.inl ⟨by rfl,fun X Z=>by have h0:=(Z 1 _ rfl).1;go_simp⟩) (by exact B) ?_;try simp only[Act.put,Zq,Zp,Zo]
  refine Br 4 ⟨some 7,.fieldAddr 46 (.tmp 1) 2,0,BE,#[],none⟩ (Yy w.heap.size 2) (by exact B) ?_;try simp only[Act.put,Zq,Zp,Zo]
  refine Di 5 ⟨some 8,.load 38 (.tmp 7),38,BE,#[Ai 4],none⟩ (.agg #[.slice a.sa v.ss.length a.sc,.slice a.ta v.tt.length a.tc]) (by exact yieldsIf_load_mid (by rfl) 38 _ rfl (w.heap.size) 2 rfl [.slice a.sa v.ss.length a.sc,.slice a.ta v.tt.length a.tc] _ (fun X h=>Aa.fb [Zg v.wd,Zg v.aj] [.slice a.sa v.ss.length a.sc,.slice a.ta v.tt.length a.tc] [Zg v.sw,Zg v.now,Zg v.given,Zg v.ae,.slice a.ka v.ks.length a.kc,.slice a.pa v.ps.length a.pc,.slice a.la v.ls.length a.lc,Zg v.ph,.slice a.qa v.qs.length a.qc,.slice a.ma v.ms.length a.mc,Zg v.ag,Zg v.at_,Zg v.ro] h) underlying38 rfl (by kernel_rfl)) (by exact B) ?_
  try simp only[Act.put,Zq,Zp,Zo]
  refine Br 7 ⟨some 10,.fieldAddr 46 (.tmp 1) 3,0,BE,#[],none⟩ (Yy w.heap.size 4) (by exact B) ?_;try simp only[Act.put,Zq,Zp,Zo]
  refine Di 8 ⟨some 11,.load 43 (.tmp 10),43,BE,#[Ai 7],none⟩ (.agg (Ys v.sw v.now v.given v.ae a.ka v.ks.length a.kc a.pa v.ps.length a.pc a.la v.ls.length a.lc)) (by exact yieldsIf_load_mid (by rfl) 43 _ rfl (w.heap.size) 4 rfl (Yt v.sw v.now v.given v.ae a.ka v.ks.length a.kc a.pa v.ps.length a.pc a.la v.ls.length a.lc) _ (fun X h=>Aa.fb [Zg v.wd,Zg v.aj,.slice a.sa v.ss.length a.sc,.slice a.ta v.tt.length a.tc] (Yt v.sw v.now v.given v.ae a.ka v.ks.length a.kc a.pa v.ps.length a.pc a.la v.ls.length a.lc) (Yj v.ph a.qa v.qs.length a.qc a.ma v.ms.length a.mc v.ag v.at_ v.ro) h) underlying43 rfl (by kernel_rfl)) (by exact B) ?_
  try simp only[Act.put,Zq,Zp,Zo]
  refine Br 10 ⟨some 13,.fieldAddr 46 (.tmp 1) 4,0,BE,#[],none⟩ (Yy w.heap.size 11) (by exact B) ?_;try simp only[Act.put,Zq,Zp,Zo]
  refine Di 11 ⟨some 14,.load 44 (.tmp 13),44,BE,#[Ai 10],none⟩ (.agg (Yr v.ph a.qa v.qs.length a.qc a.ma v.ms.length a.mc v.ag v.at_ v.ro)) (by exact yieldsIf_load_mid (by rfl) 44 _ rfl (w.heap.size) 11 rfl (Yj v.ph a.qa v.qs.length a.qc a.ma v.ms.length a.mc v.ag v.at_ v.ro) _ (fun X h=>Aa.fb [Zg v.wd,Zg v.aj,.slice a.sa v.ss.length a.sc,.slice a.ta v.tt.length a.tc,Zg v.sw,Zg v.now,Zg v.given,Zg v.ae,.slice a.ka v.ks.length a.kc,.slice a.pa v.ps.length a.pc,.slice a.la v.ls.length a.lc] (Yj v.ph a.qa v.qs.length a.qc a.ma v.ms.length a.mc v.ag v.at_ v.ro) [] h) underlying44 rfl (by kernel_rfl)) (by exact B) ?_
  try simp only[Act.put,Zq,Zp,Zo]
  refine AM 6 ⟨some 9,.call {callee:=Callee.value (.func 75),args:= #[.tmp 8],argTypes:= #[38]},38,BE,#[Ai 5],none⟩ (fun K A=> ?_);go_simp;refine(H1.o W.drew E.drew).mono ?_;rintro e w1 ⟨x,j,y,k,rfl,zM,F,zE,zK⟩;have B1:=(Below.refl W.heap.size W).drew.trans zK;try go_simp
  refine A.out _ _ (J.o w1 B1) (fun zT=> ?_);clear A K;try simp only[Act.put,Zq,Zp,Zo]
  refine AM 9 ⟨some 12,.call {callee:=Callee.value (.func 45),args:= #[.tmp 11],argTypes:= #[43]},43,BE,#[Ai 8,⟨6,.chain⟩],none⟩ (fun K A=> ?_);go_simp;refine(H2.o w1 (E.trans (B1.mono E.size))).mono ?_;rintro e w2 ⟨T,P,L,q,rfl,zA,zH,R⟩;obtain⟨r,s,o,p,l,m,rfl,rfl,rfl,_⟩:=zA.rows;have I:=B1.trans (R.mono B1.size);try go_simp
  refine A.out _ _ (J.o w2 I) (fun zU=> ?_);clear A K;try simp only[Act.put,Zq,Zp,Zo]
  refine AM 12 ⟨some 15,.call {callee:=Callee.value (.func 76),args:= #[.tmp 14],argTypes:= #[44]},44,BE,#[Ai 11,⟨9,.chain⟩],none⟩ (fun K A=> ?_);go_simp;refine(H3.o w2 (E.trans (I.mono E.size))).mono ?_;rintro e w3 ⟨i,d,f,b,rfl,zN,G,zF,V⟩;have Y:Below W.heap.size W w3:=I.trans (V.mono I.size);try go_simp
  refine A.out _ _ (J.o w3 Y) (fun zO=> ?_);clear A K;try simp only[Act.put,Zq,Zp,Zo]
  refine Br 13 ⟨some 16,.build 46 #[(0,.tmp 4),(1,.tmp 6),(2,.tmp 9),(3,.tmp 12),(4,.tmp 15)],46,BE,#[Ai 1,Ai 3,Ai 6,Ai 9,Ai 12],none⟩ (.agg (Yd v (some ⟨x,0,none⟩) j (some ⟨y,0,none⟩) k r s o p l m (some ⟨i,0,none⟩) d (some ⟨f,0,none⟩) b)) (by exact zO) ?_;try simp only[Act.put,Zq,Zp,Zo]
  refine AM 14 ⟨none,.store 46 (.tmp 2) (.tmp 16),0,BE,#[Ai 13,⟨12,.chain⟩,Ae 0,Ae 1,Ae 2,Ae 3,Ae 4,Ae 5,Ae 6,Ae 7,Ae 8,Ae 9,Ae 10,Ae 11,Ae 12,Ae 13],none⟩ (fun K A=> ?_)
  have zJ:AU w3 W.heap.size (Za x v.ss.length j) (Za y v.tt.length k) (.slice r v.ks.length s) (.slice o v.ps.length p) (.slice l v.ls.length m) (Za i v.qs.length d) (Za f v.ms.length b) q v:=AU.of (n1:=w1.heap.size) (n2:=w2.heap.size) (Al.own (Ag (Ag zM R) V)) (Al.own (Ag (Ag F R) V)) (fun g C N=>by cases C;cases N;exact zE rfl) (fun g t=>by rcases t with t|t;(cases t;exact(zM.lt _ rfl).2);(cases t;exact(F.lt _ rfl).2)) (zA.below V) zK.size zA.cf (Al.own (zN.mono I.size)) (Al.own (G.mono I.size)) (fun g t=>by rcases t with t|t;(cases t;exact(zN.lt _ rfl).1);(cases t;exact(G.lt _ rfl).1)) R.size (fun g C N=>by cases C;cases N;exact zF rfl)
  have zG:((Yd v (some ⟨x,0,none⟩) j (some ⟨y,0,none⟩) k r s o p l m (some ⟨i,0,none⟩) d (some ⟨f,0,none⟩) b):Array Value).all (·.oneCell')=true:=by simp[Value.oneCell']
  have zI:=Aa.below (v:=Zf) HZ.o Y;obtain⟨W9,zB⟩:∃X,X=w3.setCells (w.heap.size+1) 0 (Yc v (some ⟨x,0,none⟩) j (some ⟨y,0,none⟩) k r s o p l m (some ⟨i,0,none⟩) d (some ⟨f,0,none⟩) b):=⟨_,rfl⟩;have x9:Aa W9 (w.heap.size+1) (Yc v (some ⟨x,0,none⟩) j (some ⟨y,0,none⟩) k r s o p l m (some ⟨i,0,none⟩) d (some ⟨f,0,none⟩) b):=by rw[zB];exact zI.aw _ rfl
  have t9:Tn [w.heap.size+1] w3 W9:=by rw[zB];exact Ax _ _ _ _
  have z3:=Y.size;have B9:Below w.heap.size w W9:=(E.trans (Y.mono E.size)).trans (t9.below (by omega) (by simp));have zR:AU W9 w.heap.size (Za x v.ss.length j) (Za y v.tt.length k) (.slice r v.ks.length s) (.slice o v.ps.length p) (.slice l v.ls.length m) (Za i v.qs.length d) (Za f v.ms.length b) q v:=(zJ.stays t9 (fun g t zS=>by have:=zJ.lo g zS;simp at t;omega)).mono (by omega)
  have zC:=Yx (Zn x9 (Zn B9 (Zn zR zH)));have zP:=Aa.same (Aa.below HX.o Y) (t9.block _ (by omega) (by simp));rw[if_pos (by rfl)];refine wp_store_mid 46 _ _ rfl (w.heap.size+1) 0 (Yd v (some ⟨x,0,none⟩) j (some ⟨y,0,none⟩) k r s o p l m (some ⟨i,0,none⟩) d (some ⟨f,0,none⟩) b) rfl rfl zI.there (by kernel_rfl) zG ?_;try rw[←zB]
  refine A.out _ _ zP (fun zV=> ?_);clear A K;try simp only[Act.put]
  refine wpAnyH_done (by kernel_rfl) ?_ _;go_wp2_with fail;go_meet;exact⟨x,j,y,k,r,s,o,p,l,m,q,i,d,f,b,zC.o⟩
 case rest=>
  obtain⟨x,j,y,k,r,s,o,p,l,m,q,i,d,f,b,HQ⟩:=hcut;go_wp2;refine bodyPost_ret (BL results42 _ _ (w.heap.size+1) (Yc v (some ⟨x,0,none⟩) j (some ⟨y,0,none⟩) k r s o p l m (some ⟨i,0,none⟩) d (some ⟨f,0,none⟩) b) _ rfl HQ.o.1.range underlying46 rfl (by kernel_rfl)) rfl ?_;refine⟨_,_,_,_,_,_,_,q,rfl,HQ.o.2.2.1,fun u D=> ?_,HQ.o.2.1⟩;rcases List.mem_cons.1 D with rfl|D
  ·exact⟨_,_,_,rfl⟩
  rcases List.mem_cons.1 D with rfl|D
  ·exact⟨_,_,_,rfl⟩
  rcases List.mem_cons.1 D with rfl|D
  ·exact⟨_,_,_,rfl⟩
  rcases List.mem_cons.1 D with rfl|D
  ·exact⟨_,_,_,rfl⟩
  exact HQ.o.2.2.2 u D
theorem TN(k ag g l:Int)(a b:Zk)(i j:Nat)(d c:Zl)(left:Int)(w:Zh)(u:Ad w w.heap.size a d)(t:Ad w w.heap.size b c)
 (q:d.length<=maxLen) (v:∀s∈d,s.size<=maxLen) (o:c.length<=maxLen) (p:∀s∈c,s.size<=maxLen) (B:0<=left) (C:left<=1048576):
 Calls prog 19 #[.agg (Yr k a d.length i b c.length j ag g l),Zg left] w fun e z=>∃r:Int,e=.returned (Zg r)/\Zz w z/\(0<=r->FT d c/\r<=1048576):=by
 have f:Below w.heap.size w (w.alloc (.cells (Yr k a d.length i b c.length j ag g l) 31)):=Zy;go_enter func19,ntmps19;go_wp2_with fail;refine(Qa a i d _ _ w.heap.size (u.below f) q v (by omega) (by omega)).mono ?_;rintro e E ⟨r,rfl,rfl,D,m⟩;by_cases h3:r<0
 ·go_wp2;go_ret;exact⟨_,rfl,f,fun h=>by omega⟩
 ·go_wp2_with fail;refine(Qa b j c _ _ w.heap.size (t.below f) o p (by omega) (by omega)).mono ?_;rintro e F ⟨x,rfl,rfl,A,n⟩;by_cases h4:x<0
  ·go_wp2;go_ret;exact⟨_,rfl,f,fun h=>by omega⟩
  ·go_wp2;go_ret;exact⟨_,rfl,f,fun _=>⟨⟨m (by omega),n (by omega)⟩,by omega⟩⟩
theorem TO(v:Vd)(a:Va)(w:Zh)(t:Cc w w.heap.size a v)(q:Vo v):
 Calls prog 4 #[.agg (Yg v a),Zg 1048576] w fun e u=>∃r:Int,e=.returned (Zg r)/\Zz w u/\(0<=r->Cy v/\r<=1048576):=by
 obtain⟨W,N⟩:∃W,W=w.alloc (.cells (Yg v a) 33):=⟨_,rfl⟩;have p:=(AJ N).1;have xW:=(AJ N).2.2;have HX:Hid (∀X,Zz W X->Aa X w.heap.size (Ye v a)):=fun X hX=>Aa.below xW hX;have HW:=Yx N;have T:=Yx t;have m:=Yx q
 have hL:Calls prog 17 #[.agg #[.slice a.sa v.ss.length a.sc,.slice a.ta v.tt.length a.tc],Zg 1048576] W fun e u=>∃r:Int,e=.returned (Zg r)/\Zz W u/\r<=1048576/\(0<=r->(v.ss.length:Int)+aq v.ss+v.tt.length+aq v.tt<=1048576):=by
  by_cases hfit:(v.ss.length:Int)+aq v.ss+v.tt.length+aq v.tt<=1048576
  ·refine(SB a.sa a.ta a.sc a.tc v.ss v.tt 1048576 W (t.s.af p) (t.t.af p) (by omega) hfit).mono ?_;rintro e u ⟨rfl,U⟩;exact⟨_,rfl,U,by omega,fun _=>hfit⟩
  ·refine(Uv a.sa a.ta a.sc a.tc v.ss v.tt 1048576 W (t.s.af p) (t.t.af p) q.s q.ss q.t q.tt (by omega) (by omega) (by omega)).mono ?_;rintro e u ⟨rfl,U⟩;exact⟨_,rfl,U,by omega,fun h=>by omega⟩
 have HL:=Yx hL;obtain⟨x,z,A,B,C,D,E,F,G,I,c,d,f,g,j,k,l⟩:=FK xW;clear N xW t q hL;go_enter func4,ntmps4;go_wp2_with fail;rw[←HW.o];refine Calls.mono HL.o ?_;rintro e w1 ⟨r1,rfl,K,zE,R⟩;have J:=Yx K;have o:=Yx (p.trans (K.mono p.size));clear x z A B C D E F G I c d f g j k l K HL HW;by_cases n1:r1<0
 ·go_wp2;go_ret;exact⟨_,rfl,o.o,fun h=>by omega⟩
 ·have zB:=Yx (R (by omega));obtain⟨x,z,A,B,C,D,E,F,G,I,c,d,f,g,j,k,l⟩:=FK (HX.o w1 J.o);have HS:=Yx (SP v.sw v.now v.given v.ae a.ka a.pa a.la a.kc a.pc a.lc v.ks v.ps v.ls r1 w1 (T.o.st.af o.o) m.o.k m.o.p m.o.l (by omega) (by omega));clear R;go_wp2_with fail;refine Calls.mono HS.o ?_;rintro e w2 ⟨r2,rfl,L,zF,S⟩;have zA:=Yx (J.o.trans (L.mono J.o.size));have b:=Yx (o.o.trans (L.mono o.o.size))
  clear x z A B C D E F G I c d f g j k l L HS;by_cases n2:r2<0
  ·go_wp2;go_ret;exact⟨_,rfl,b.o,fun h=>by omega⟩
  ·have O:=Yx (S (by omega));obtain⟨x,z,A,B,C,D,E,F,G,I,c,d,f,g,j,k,l⟩:=FK (HX.o w2 zA.o);have P:=Yx (TN v.ph v.ag v.at_ v.ro a.qa a.ma a.qc a.mc v.qs v.ms r2 w2 (T.o.q.af b.o) (T.o.m.af b.o) m.o.q m.o.qs m.o.m m.o.ms (by omega) (by omega));clear S;go_wp2_with fail;refine Calls.mono P.o ?_;rintro e w3 ⟨Z,rfl,Q,M⟩;have n:=Yx (b.o.trans (Q.mono b.o.size))
   have zC:Hid (0<=Z->Cy v/\Z<=1048576):=fun h=>by
    have h1:=zB.o;refine⟨⟨by omega,by omega,fun s Y=> ?_,fun s Y=> ?_,O.o.1,(M h).1,O.o.2⟩,(M h).2⟩
    ·obtain⟨i,V⟩:=List.getElem?_of_mem Y;have:=PS v.ss i s V;omega
    ·obtain⟨i,V⟩:=List.getElem?_of_mem Y;have:=PS v.tt i s V;omega
   clear x z A B C D E F G I c d f g j k l Q P M;by_cases n3:Z<0
   ·go_wp2;go_ret;exact⟨_,rfl,n.o,fun h=>by omega⟩
   ·go_wp2;go_ret;exact⟨_,rfl,n.o,zC.o⟩
section
open Go.ChangeShapes Go.WideShapes Go.ChangeAt Go.RowKit Go.Deep
theorem WX:prog.cellsOf 33=17:=by kernel_rfl
theorem ZL:prog.cellsOf 24=2:=by kernel_rfl
theorem WY:prog.cellsOf 31=6:=by kernel_rfl
theorem Aaj{α:Type}{l:List α}(h:l.length=5):∃a b c d e,l=[a,b,c,d,e]:=by match l,h with|[a,b,c,d,e],_=>exact⟨a,b,c,d,e,rfl⟩
theorem ZM{α:Type}{l:List α}(h:l.length=17):∃i j k m n o p q r s a b c d e f g,l=[i,j,k,m,n,o,p,q,r,s,a,b,c,d,e,f,g]:=by match l,h with|[i,j,k,m,n,o,p,q,r,s,a,b,c,d,e,f,g],_=>exact⟨i,j,k,m,n,o,p,q,r,s,a,b,c,d,e,f,g,rfl⟩
section
variable {H:Type} {enc:TypeId×Value->H} {W:Zh} {base:Nat} {spare:Nat->Bool} {held:Bool} {fuel:Nat} {y:DataW H×List MemPlace}
theorem TP{g i:Value}(h:DataW.trod enc prog W base spare held fuel 24 [g,i]=some y):
 ∃a e c b f d,g=.slice a (List.length c) e/\i=.slice b (List.length d) f/\Ad W W.heap.size a c/\Ad W W.heap.size b d/\c.length<=maxLen/\(∀s∈c,ByteArray.size s<=maxLen)/\d.length<=maxLen/\(∀s∈d,ByteArray.size s<=maxLen):=by
 obtain⟨x,z,n,_,_,q,r⟩:=trod_struct2 underlying24 h;have j:DataW.trod enc prog W base spare held n 22 [g]=some x:=by simpa [Ft]using q
 have k:DataW.trod enc prog W base spare held n 22 [i]=some z:=by simpa [Ft]using r
 obtain⟨a,e,c,w,u,t,v⟩:=Fq j;obtain⟨b,f,d,p,m,l,o⟩:=Fq k;exact⟨a,e,c,b,f,d,w,p,u,m,t,v,l,o⟩
theorem PM{j k c2 c3 c4 m c6:Value}(h:DataW.trod enc prog W base spare held fuel 29 [j,k,c2,c3,c4,m,c6]=some y):
 ∃q g given ae a i p o l n d f e,j=Zg q/\k=Zg g/\c2=Zg given/\c3=Zg ae/\c4=.slice a (List.length d) i/\m=.slice p (List.length f) o/\c6=.slice l (List.length e) n/\BJ W W.heap.size a p l d f e/\NJ d/\NK f/\NL e:=by
 obtain⟨U,c,_,_,_,hlen,b⟩:=DataW.trod_struct underlying29 h;obtain⟨N,O,P,Q,R,S,T,rfl⟩:=Aab (l:=U) hlen;have u:DataW.trod enc prog W base spare held c 3 [j]=some N:=by simpa [Ea]using b 0 _ rfl
 have v:DataW.trod enc prog W base spare held c 3 [k]=some O:=by simpa [Ea]using b 1 _ rfl
 have w:DataW.trod enc prog W base spare held c 3 [c2]=some P:=by simpa [Ea]using b 2 _ rfl
 have x:DataW.trod enc prog W base spare held c 3 [c3]=some Q:=by simpa [Ea]using b 3 _ rfl
 have z:DataW.trod enc prog W base spare held c 25 [c4]=some R:=by simpa [cKs]using b 4 _ rfl
 have A:DataW.trod enc prog W base spare held c 26 [m]=some S:=by simpa [cPs]using b 5 _ rfl
 have B:DataW.trod enc prog W base spare held c 27 [c6]=some T:=by simpa [cLs]using b 6 _ rfl
 obtain⟨q,C,_⟩:=CB u;obtain⟨g,D,_⟩:=CB v;obtain⟨given,E,_⟩:=CB w;obtain⟨ae,F,_⟩:=CB x;obtain⟨a,i,d,G,K,r,_⟩:=QU z;obtain⟨p,o,f,I,M,t⟩:=Tb A;obtain⟨l,n,e,J,L,s⟩:=Pv B;exact⟨q,g,given,ae,a,i,p,o,l,n,d,f,e,C,D,E,F,G,I,J,⟨K,M,L⟩,r,t,s⟩
theorem PN{k m c2 c3 c4 n:Value}(h:DataW.trod enc prog W base spare held fuel 31 [k,m,c2,c3,c4,n]=some y):
 ∃(o ag e p:Int) (j:Zk) (g:Nat) (i:Zk) (f:Nat) (d b:Zl),k=Zg o/\m=.slice j (List.length d) g/\c2=.slice i (List.length b) f/\c3=Zg ag/\c4=Zg e/\n=Zg p/\Ad W W.heap.size j d/\Ad W W.heap.size i b/\
  d.length<=maxLen/\(∀s∈d,ByteArray.size s<=maxLen)/\b.length<=maxLen/\(∀s∈b,ByteArray.size s<=maxLen):=by
 obtain⟨R,c,_,_,_,hlen,a⟩:=DataW.trod_struct underlying31 h;obtain⟨L,M,N,O,P,Q,rfl⟩:=Aac (l:=R) hlen;have v:DataW.trod enc prog W base spare held c 3 [k]=some L:=by simpa [Ea]using a 0 _ rfl
 have w:DataW.trod enc prog W base spare held c 22 [m]=some M:=by simpa [Ea,Ft]using a 1 _ rfl
 have x:DataW.trod enc prog W base spare held c 22 [c2]=some N:=by simpa [Ea,Ft]using a 2 _ rfl
 have z:DataW.trod enc prog W base spare held c 3 [c3]=some O:=by simpa [Ea,Ft]using a 3 _ rfl
 have A:DataW.trod enc prog W base spare held c 3 [c4]=some P:=by simpa [Ea,Ft]using a 4 _ rfl
 have B:DataW.trod enc prog W base spare held c 3 [n]=some Q:=by simpa [Ea,Ft]using a 5 _ rfl
 obtain⟨o,C,_⟩:=CB v;obtain⟨ag,F,_⟩:=CB z;obtain⟨e,G,_⟩:=CB A;obtain⟨p,I,_⟩:=CB B;obtain⟨j,g,d,D,K,t,u⟩:=Fq w;obtain⟨i,f,b,E,J,q,r⟩:=Fq x;exact⟨o,ag,e,p,j,g,i,f,d,b,C,D,E,F,G,I,K,J,t,u,q,r⟩
theorem RO{r:Reach}{M:Nat}{u:Value}{d:DataW H}{pl:List MemPlace}(hv:Value.okWide prog W r M 33 u)(h:DataW.Trod enc prog W base spare held 33 u d pl):
 ∃(v:Vd) (a:Va),u=.agg (Yg v a)/\Cc W W.heap.size a v/\Vo v:=by
 obtain⟨w,rfl,K⟩:=okWide_struct underlying33 hv;obtain⟨fuel,hf⟩:=h;obtain⟨xs,e,_,_,_,hlen,c⟩:=DataW.trod_struct underlying33 hf;obtain⟨o,p,c2,c3,c4,q,c6,c7,s,t,f,g,MN,i,j,k,m,n⟩:=ZM (l:=w.toList) (by rw[Array.length_toList,K,WX]);obtain⟨x0,x1,x2,x3,x4,rfl⟩:=Aaj (l:=xs) hlen;have b:(Value.agg w).cells.toList=[o,p,c2,c3,c4,q,c6,c7,s,t,f,g,MN,i,j,k,m]:=by rw[←n];rfl
 have V:DataW.trod enc prog W base spare held e 3 [o]=some x0:=by simpa [b,Ea]using c 0 _ rfl
 have X:DataW.trod enc prog W base spare held e 3 [p]=some x1:=by simpa [b,Ea]using c 1 _ rfl
 have Y:DataW.trod enc prog W base spare held e 24 [c2,c3]=some x2:=by simpa [b,ZL]using c 2 _ rfl
 have Z:DataW.trod enc prog W base spare held e 29 [c4,q,c6,c7,s,t,f]=some x3:=by simpa [b,XW]using c 3 _ rfl
 have f4:DataW.trod enc prog W base spare held e 31 [g,MN,i,j,k,m]=some x4:=by simpa [b,WY]using c 4 _ rfl
 obtain⟨wd,h0,_⟩:=CB V;obtain⟨aj,h1,_⟩:=CB X;obtain⟨sa,sc,ss,ta,tc,tt,h2,h3,G,I,N,O,P,Q⟩:=TP Y;obtain⟨sw,L,given,ae,ka,kc,pa,pc,la,lc,ks,ps,ls,h4,h5,h6,h7,h8,h9,z,J,hk,hp,hl⟩:=PM Z;obtain⟨ph,ag,x,ro,qa,qc,ma,mc,qs,ms,A,B,C,D,E,F,hq,hm,R,S,T,U⟩:=PN f4;refine⟨⟨wd,aj,ss,tt,sw,L,given,ae,ks,ps,ls,ph,qs,ms,ag,x,ro⟩,⟨sa,sc,ta,tc,ka,kc,pa,pc,la,lc,qa,qc,ma,mc⟩,?_,⟨G,I,J,hq,hm⟩,⟨N,O,P,Q,hk,hp,hl,R,S,T,U⟩⟩
 congr 1;apply Array.toList_inj.1;rw[n,h0,h1,h2,h3,h4,h5,h6,h7,h8,h9,z,A,B,C,D,E,F]
end
end
end Go.Proofs.YtckmnfhmoankmaaGreatDoor
